"""Promises [2], [3], [6], [8] and inforce/compare.py: all but alike and unlike."""

import inspect
import itertools
import random
import unittest

from inforce import compare
from inforce.compare import least_sets, may_change_places, needless, same_days, sure, untouched
from inforce.errors import InvalidDay, PriceError, UnknownDeed
from inforce.programs import Program
from tests import plain

FEW_DAYS = plain.all_lists(range(5))

DEEDS_OF_EACH_KIND = [
    ("put", 10, 5), ("take", 10), ("end", 10), ("cover", 5, 15, 3), ("raise", 5, 15, 2), ("repeat", 5, 15, 20),
]


def programs_on_few_days(seed, many, least=0, most=6):
    source = random.Random(seed)
    for _ in range(many):
        deeds = [plain.some_deed(source, 3) for _ in range(source.randint(least, most))]
        if deeds and len(deeds) < most and source.random() < 0.5:
            # A deed twice, or nearly twice.
            twice = source.choice(deeds)
            deeds.insert(source.randint(0, len(deeds)), source.choice([twice, plain.greater(twice)]))
        if all(deed[1] < deed[2] for deed in deeds if deed[0] in ("cover", "raise", "repeat")):
            yield deeds


def programs_to_40(seed, many, least, most):
    source = random.Random(seed)
    for _ in range(many):
        yield [plain.some_deed(source, 40) for _ in range(source.randint(least, most))]


class Errors(unittest.TestCase):
    def assert_error(self, kind, value, call, *things):
        with self.assertRaises(PriceError) as caught:
            call(*things)
        self.assertIs(type(caught.exception), kind)
        self.assertEqual(caught.exception.value, value)


class ChangedPlaces(Errors):
    def check(self, deeds, index, expected):
        program = Program(deeds)
        self.assertIs(may_change_places(program, index), expected, (deeds, index))
        self.assertEqual(program.deeds, deeds)

    def test_by_hand(self):
        self.check([("put", 3, 5), ("put", 4, 5)], 0, True)
        self.check([("put", 3, 5), ("put", 3, 5)], 0, True)
        self.check([("put", 3, 5), ("put", 3, 6)], 0, False)
        self.check([("put", 3, 5), ("take", 3)], 0, False)
        self.check([("raise", 3, 9, 1), ("raise", 5, 12, 2)], 0, True)
        self.check([("cover", 10, 20, 5), ("put", 15, 7)], 0, False)
        self.check([("cover", 10, 20, 5), ("put", 20, 7)], 0, True)
        self.check([("cover", 10, 20, 5), ("put", 19, 7)], 0, False)
        self.check([("cover", 10, 20, 5), ("take", 20)], 0, False)
        self.check([("cover", 10, 20, 5), ("put", 21, 7)], 0, True)
        self.check([("cover", 10, 20, 5), ("put", 9, 7)], 0, False)
        self.check([("cover", 10, 20, 5), ("end", 21)], 0, True)

    def test_deeds_behind_count(self):
        # Alone they may not change places; with what comes behind they may.
        self.check([("put", 3, 5), ("put", 3, 6), ("put", 3, 7)], 0, True)
        self.check([("put", 3, 5), ("put", 3, 6), ("put", 3, 7)], 1, False)
        self.check([("put", 3, 5), ("take", 3), ("end", 2)], 0, True)

    def test_deeds_ahead_count(self):
        self.check([("raise", 2, 6, 1), ("take", 2)], 0, False)
        self.check([("end", 0), ("raise", 2, 6, 1), ("take", 2)], 1, True)

    def test_each_index(self):
        deeds = [("put", 3, 5), ("put", 9, 5), ("take", 9), ("raise", 1, 3, 2), ("raise", 1, 3, 5)]
        program = Program(deeds)
        self.assertEqual([may_change_places(program, index) for index in range(4)], [True, False, True, True])

    def test_few_days_the_plain_way(self):
        found = []
        for deeds in programs_on_few_days(71, 250, 2):
            for index in range(len(deeds) - 1):
                changed = deeds[:index] + [deeds[index + 1], deeds[index]] + deeds[index + 2:]
                expected = plain.alike(deeds, changed, FEW_DAYS)
                self.check(deeds, index, expected)
                found.append(expected)
        self.assertGreater(found.count(True), 50)
        self.assertGreater(found.count(False), 50)

    def test_days_to_40_the_plain_way(self):
        for deeds in programs_to_40(72, 15, 2, 4):
            lists = plain.few_lists(plain.days_that_matter(deeds))
            for index in range(len(deeds) - 1):
                changed = deeds[:index] + [deeds[index + 1], deeds[index]] + deeds[index + 2:]
                self.check(deeds, index, plain.alike(deeds, changed, lists))

    def test_unknown_deed(self):
        for many in range(7):
            program = Program(DEEDS_OF_EACH_KIND[:many])
            for index in (-many, -many - 1, -2, -1, many - 1, many, many + 1, 99):
                if not 0 <= index < many - 1:
                    self.assert_error(UnknownDeed, index, may_change_places, program, index)
            self.assertEqual(program.deeds, DEEDS_OF_EACH_KIND[:many])

    def test_no_deed_and_one_deed(self):
        for index in (-1, 0, 1):
            self.assert_error(UnknownDeed, index, may_change_places, Program([]), index)
            self.assert_error(UnknownDeed, index, may_change_places, Program([("take", 1)]), index)


class Needless(unittest.TestCase):
    def check(self, deeds, expected):
        program = Program(deeds)
        told = needless(program)
        self.assertEqual(told, expected, deeds)
        self.assertIs(type(told), list)
        self.assertEqual(program.deeds, deeds)

    def test_by_hand(self):
        self.check([], [])
        self.check([("take", 3)], [])
        self.check([("raise", 3, 4, 0)], [0])
        self.check([("take", 3), ("take", 3)], [0, 1])
        self.check([("put", 3, 5), ("put", 3, 5)], [0, 1])
        self.check([("put", 3, 5), ("put", 3, 6)], [0])
        self.check([("put", 3, 5), ("take", 3)], [0])
        self.check([("raise", 3, 5, 1), ("raise", 3, 5, -1)], [])
        self.check([("cover", 3, 6, 1), ("take", 9), ("end", 2)], [0, 1])
        self.check([("end", 2), ("take", 9), ("end", 5), ("put", 9, 1)], [1, 2])
        self.check([("take", 9), ("end", 2)] * 3, [0, 1, 2, 3, 4, 5])

    def test_the_last_deed_may_name_the_last_day(self):
        self.check([("end", 2), ("take", 40)], [1])
        self.check([("put", 40, 1), ("take", 40)], [0])

    def test_few_days_the_plain_way(self):
        for deeds in programs_on_few_days(73, 250):
            expected = [
                index for index in range(len(deeds))
                if plain.alike(deeds, deeds[:index] + deeds[index + 1:], FEW_DAYS)
            ]
            self.check(deeds, expected)

    def test_days_to_40_the_plain_way(self):
        for deeds in programs_to_40(74, 10, 3, 6):
            lists = plain.few_lists(plain.days_that_matter(deeds))
            expected = [
                index for index in range(len(deeds))
                if plain.alike(deeds, deeds[:index] + deeds[index + 1:], lists)
            ]
            self.check(deeds, expected)


class LeastSets(unittest.TestCase):
    def check(self, deeds, expected):
        program = Program(deeds)
        told = least_sets(program)
        self.assertEqual(told, expected, deeds)
        self.assertIs(type(told), list)
        for chosen in told:
            self.assertIs(type(chosen), list)
        self.assertEqual(program.deeds, deeds)

    def plain_sets(self, deeds, lists):
        top = max(plain.named_days(deeds), default=0) + 3
        whole = plain.effect(deeds, lists, top)
        right = [
            chosen for size in range(len(deeds) + 1) for chosen in itertools.combinations(range(len(deeds)), size)
            if plain.effect([deeds[index] for index in chosen], lists, top) == whole
        ]
        return [list(chosen) for chosen in right if not any(set(fewer) < set(chosen) for fewer in right)]

    def test_by_hand(self):
        self.check([], [[]])
        self.check([("take", 3)], [[0]])
        self.check([("take", 3), ("take", 3)], [[0], [1]])
        self.check([("take", 3)] * 6, [[0], [1], [2], [3], [4], [5]])
        self.check([("put", 3, 5), ("take", 4), ("put", 3, 5)], [[0, 1], [1, 2]])
        self.check([("put", 3, 5), ("put", 3, 6), ("put", 3, 5)], [[0], [2]])
        self.check([("put", 3, 5), ("put", 4, 6)], [[0, 1]])
        self.check([("cover", 1, 3, 5), ("cover", 3, 6, 5), ("cover", 1, 6, 5)], [[2], [0, 1]])

    def test_empty_set_where_nothing_is_changed(self):
        self.check([("raise", 3, 5, 0)], [[]])
        self.check([("raise", 3, 5, 1), ("raise", 3, 5, -1)], [[]])
        self.check([("raise", 3, 5, 2), ("raise", 3, 5, -1), ("repeat", 6, 7, 6), ("raise", 3, 5, -1)], [[]])

    def test_the_empty_set_counts_as_one_with_only_some(self):
        self.check([("raise", 3, 4, 1), ("raise", 3, 4, 0), ("raise", 3, 4, -1)], [[]])

    def test_by_number_then_as_lists(self):
        raises = [("raise", 3, 5, number) for number in (1, 1, 2, 3, -3, 3)]
        # All of them add up to 7; what adds up to as much does as much.
        expected = [
            list(chosen) for size in range(7) for chosen in itertools.combinations(range(6), size)
            if sum(raises[index][3] for index in chosen) == 7
        ]
        least = [chosen for chosen in expected if not any(set(fewer) < set(chosen) for fewer in expected)]
        self.assertEqual(least, [[0, 3, 5], [1, 3, 5], [0, 1, 2, 3], [0, 1, 2, 5]])
        self.check(raises, least)

    def test_few_days_the_plain_way(self):
        sizes = []
        for deeds in programs_on_few_days(75, 120):
            expected = self.plain_sets(deeds, FEW_DAYS)
            self.check(deeds, expected)
            sizes.append(len(expected))
        self.assertGreater(max(sizes), 1)

    def test_six_deeds_of_few_kinds(self):
        source = random.Random(76)
        for kinds in (("raise",), ("take", "end"), ("cover", "raise"), ("repeat", "cover"), ("put", "take", "end")):
            for _ in range(8):
                deeds = [plain.some_deed(source, 3, kinds) for _ in range(6)]
                self.check(deeds, self.plain_sets(deeds, FEW_DAYS))

    def test_days_to_40_the_plain_way(self):
        for deeds in programs_to_40(77, 6, 3, 4):
            twice = deeds[:2] + deeds[:1]
            for some in (deeds, twice):
                self.check(some, self.plain_sets(some, plain.few_lists(plain.days_that_matter(some))))

    def test_each_list_is_one_of_its_own(self):
        program = Program([("take", 3), ("take", 3), ("put", 9, 1)])
        first = least_sets(program)
        for chosen in first:
            chosen.append(99)
        first.append([])
        self.assertEqual(least_sets(program), [[0, 2], [1, 2]])
        empty = least_sets(Program([]))
        empty[0].append(5)
        self.assertEqual(least_sets(Program([])), [[]])


class Days(Errors):
    def force_behind(self, deeds, lists, day):
        return [plain.force(plain.done(entries, deeds), day) for entries in lists]

    def check_day(self, deeds, lists, day):
        program = Program(deeds)
        behind = self.force_behind(deeds, lists, day)
        ahead = self.force_behind([], lists, day)
        self.assertIs(untouched(program, day), behind == ahead, (deeds, day))
        expected = (behind[0],) if all(price == behind[0] for price in behind) else None
        told = sure(program, day)
        self.assertEqual(told, expected, (deeds, day))
        if expected is not None:
            self.assertIs(type(told), tuple)
        self.assertEqual(program.deeds, deeds)

    def check_two_days(self, deeds, lists, day, other):
        expected = self.force_behind(deeds, lists, day) == self.force_behind(deeds, lists, other)
        program = Program(deeds)
        for one, two in ((day, other), (other, day)):
            self.assertIs(same_days(program, one, two), expected, (deeds, one, two))
        self.assertEqual(program.deeds, deeds)

    def test_untouched_by_hand(self):
        self.assertEqual([untouched(Program([("put", 10, 5)]), day) for day in (0, 9, 10, 11)], [True, True, False, False])
        self.assertEqual([untouched(Program([("end", 10)]), day) for day in (9, 10, 40)], [True, False, False])
        self.assertEqual([untouched(Program([("take", 10)]), day) for day in (9, 10, 11)], [True, False, False])
        cover = Program([("cover", 5, 8, 3)])
        self.assertEqual([untouched(cover, day) for day in range(3, 11)], [True, True] + [False] * 3 + [True] * 3)
        raised = Program([("raise", 5, 8, 3), ("raise", 6, 9, -3)])
        self.assertEqual([untouched(raised, day) for day in range(4, 10)], [True, False, True, True, False, True])
        self.assertEqual([untouched(Program([]), day) for day in (0, 1, 402)], [True, True, True])
        # Day 5 is told by itself, the days behind it are not.
        repeat = Program([("repeat", 5, 8, 5)])
        self.assertEqual([untouched(repeat, day) for day in range(4, 10)], [True, True, False, False, True, True])

    def test_sure_by_hand(self):
        self.assertEqual([sure(Program([("put", 10, 5)]), day) for day in (9, 10, 11)], [None, (5,), None])
        self.assertEqual(sure(Program([("put", 10, None)]), 10), (None,))
        self.assertEqual(sure(Program([("put", 10, 0)]), 10), (0,))
        self.assertEqual([sure(Program([("end", 0)]), day) for day in (0, 40)], [(None,), (None,)])
        self.assertEqual(sure(Program([("take", 0)]), 0), (None,))
        self.assertIsNone(sure(Program([("take", 0)]), 1))
        self.assertIsNone(sure(Program([("end", 1)]), 5))
        cover = Program([("cover", 5, 8, -3), ("raise", 6, 9, 4), ("repeat", 20, 22, 6)])
        self.assertEqual([sure(cover, day) for day in (4, 5, 6, 7, 8, 19, 20, 21, 22)],
                         [None, (-3,), (1,), (1,), None, None, (1,), (1,), None])
        self.assertEqual(sure(Program([("end", 0), ("put", 3, 7)]), 402), (7,))
        self.assertIsNone(sure(Program([]), 0))

    def test_same_days_by_hand(self):
        self.assertIs(same_days(Program([]), 3, 3), True)
        self.assertIs(same_days(Program([]), 3, 4), False)
        self.assertIs(same_days(Program([("take", 4)]), 3, 4), True)
        self.assertIs(same_days(Program([("take", 4)]), 4, 5), False)
        self.assertIs(same_days(Program([("end", 4)]), 3, 40), True)
        self.assertIs(same_days(Program([("put", 3, 5), ("put", 9, 5)]), 3, 9), True)
        self.assertIs(same_days(Program([("put", 3, 5), ("put", 9, 6)]), 3, 9), False)
        self.assertIs(same_days(Program([("repeat", 20, 25, 7)]), 7, 22), True)
        self.assertIs(same_days(Program([("repeat", 20, 25, 7), ("raise", 7, 8, 1)]), 7, 22), False)
        self.assertIs(same_days(Program([("end", 0)]), 0, 40), True)

    def test_few_days_the_plain_way(self):
        for deeds in programs_on_few_days(78, 150):
            for day in range(6):
                self.check_day(deeds, plain.all_lists(range(6)), day)

    def test_two_of_few_days_the_plain_way(self):
        lists = plain.all_lists(range(6))
        for deeds in programs_on_few_days(79, 60):
            for day, other in itertools.combinations_with_replacement(range(6), 2):
                self.check_two_days(deeds, lists, day, other)

    def test_days_to_40_the_plain_way(self):
        source = random.Random(80)
        for deeds in programs_to_40(81, 12, 2, 5):
            lists = plain.few_lists(plain.days_that_matter(deeds))
            named = plain.named_days(deeds)
            for day in source.sample(named, min(4, len(named))) + [source.randint(0, 41)]:
                self.check_day(deeds, lists + plain.few_lists((day, day + 1)), day)
                other = source.choice((day + 1, source.randint(0, 41)))
                near = plain.all_lists((day, day + 1, other, other + 1))
                self.check_two_days(deeds, lists + near, day, other)

    def test_same_day_twice(self):
        for deeds in programs_to_40(82, 30, 0, 6):
            for day in (0, 1, 17, 40, 41, 402):
                self.assertIs(same_days(Program(deeds), day, day), True)

    def test_negative_days(self):
        for deeds in ([], [("put", 0, 5)], [("end", 0)]):
            program = Program(deeds)
            for day in (-1, -2, -402):
                self.assert_error(InvalidDay, day, untouched, program, day)
                self.assert_error(InvalidDay, day, sure, program, day)
                self.assert_error(InvalidDay, day, same_days, program, day, 0)
                self.assert_error(InvalidDay, day, same_days, program, 0, day)
                self.assert_error(InvalidDay, day, same_days, program, day, day)
            self.assert_error(InvalidDay, -3, same_days, program, -3, -1)
            self.assert_error(InvalidDay, -1, same_days, program, -1, -3)
            self.assertEqual(program.deeds, deeds)


class Arguments(unittest.TestCase):
    def test_by_position_and_by_name(self):
        program = Program([("put", 3, 5), ("put", 3, 5)])
        self.assertIs(may_change_places(program=program, index=0), True)
        self.assertIs(may_change_places(index=0, program=program), True)
        self.assertEqual(needless(program=program), [0, 1])
        self.assertEqual(least_sets(program=program), [[0], [1]])
        self.assertIs(untouched(program=program, day=2), True)
        self.assertEqual(sure(day=3, program=program), (5,))
        self.assertIs(same_days(program=program, day=3, other=4), False)
        self.assertIs(same_days(program, other=3, day=3), True)

    def test_names_of_arguments(self):
        expected = {
            "alike": ["one", "other"], "unlike": ["one", "other"], "may_change_places": ["program", "index"],
            "needless": ["program"], "least_sets": ["program"], "untouched": ["program", "day"],
            "sure": ["program", "day"], "same_days": ["program", "day", "other"],
        }
        for name, names in expected.items():
            told = getattr(compare, name)
            self.assertEqual(list(inspect.signature(told).parameters), names)
            self.assertEqual(told.__module__, "inforce.compare")

    def test_a_changed_answer_changes_no_later_one(self):
        program = Program([("take", 3), ("take", 3)])
        needless(program).append(7)
        self.assertEqual(needless(program), [0, 1])
        self.assertIsNot(needless(program), needless(program))


if __name__ == "__main__":
    unittest.main()
