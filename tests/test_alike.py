"""Promises [4] to [6], [8] and inforce/compare.py: alike and unlike."""

import random
import unittest

from inforce.cases import line
from inforce.compare import alike, unlike
from inforce.lists import PriceList
from inforce.programs import Program
from tests import plain


class Pairs(unittest.TestCase):
    """Checks of two programs, either way about."""

    def check(self, deeds, others, expected):
        for one, other in ((deeds, others), (others, deeds)):
            one_program, other_program = Program(one), Program(other)
            self.assertIs(alike(one_program, other_program), expected, (one, other))
            self.check_unlike(one, other, unlike(one_program, other_program), expected)
            self.assertEqual([one_program.deeds, other_program.deeds], [one, other])

    def check_unlike(self, one, other, told, expected):
        if expected:
            self.assertIsNone(told, (one, other))
            return
        self.assertIs(type(told), tuple)
        prices, day = told
        self.assertIsInstance(prices, PriceList)
        self.assertIs(type(day), int)
        self.assertGreaterEqual(day, 0)
        forces = []
        for deeds in (one, other):
            entries, behind = dict(prices.entries), prices
            for deed in deeds:
                plain.do(entries, deed)
                behind = Program([deed]).done(behind)
            self.assertEqual(behind[day], plain.force(entries, day))
            forces.append(behind[day])
        self.assertNotEqual(forces[0], forces[1], (one, other))

    def check_lines(self, deeds, others, expected):
        top = max(plain.named_days(deeds + others), default=0) + 1
        one, other = Program(deeds), Program(others)
        same = all(line(one, day) == line(other, day) for day in range(top + 1))
        self.assertIs(same, expected, (deeds, others))


class ByHand(Pairs):
    def test_same_program(self):
        for deeds in ([], [("put", 3, 5)], [("raise", 0, 4, 1), ("take", 2), ("repeat", 1, 3, 9)]):
            self.check(deeds, list(deeds), True)
            program = Program(deeds)
            self.assertIs(alike(program, program), True)
            self.assertIsNone(unlike(program, program))

    def test_each_kind_against_none(self):
        for deed in [("put", 3, 5), ("put", 3, None), ("put", 0, 5), ("take", 3), ("take", 0), ("end", 3), ("end", 0),
                     ("cover", 2, 4, 5), ("cover", 2, 4, None), ("cover", 0, 1, None), ("raise", 2, 4, 1),
                     ("raise", 2, 4, -1), ("repeat", 2, 4, 1), ("repeat", 2, 4, 3), ("repeat", 2, 4, 9)]:
            self.check([deed], [], False)

    def test_what_changes_nothing(self):
        self.check([("raise", 2, 4, 0)], [], True)
        self.check([("repeat", 2, 3, 2)], [], True)
        self.check([("raise", 2, 4, 5), ("raise", 2, 4, -5)], [], True)
        self.check([("raise", 2, 4, 0), ("repeat", 6, 7, 6)], [], True)

    def test_a_repeat_of_its_own_day(self):
        # An entry within is taken out, so more than one day may become another.
        self.check([("repeat", 2, 4, 2)], [], False)
        self.check([("repeat", 2, 3, 3)], [], False)

    def test_put_over_put(self):
        self.check([("put", 3, 5), ("put", 3, 6)], [("put", 3, 6)], True)
        self.check([("put", 3, 5), ("put", 3, 6)], [("put", 3, 5)], False)
        self.check([("put", 3, 5), ("put", 4, 6)], [("put", 4, 6), ("put", 3, 5)], True)
        self.check([("put", 3, 5), ("put", 4, 5)], [("put", 3, 5)], False)

    def test_cover_joined_to_cover(self):
        self.check([("cover", 2, 4, 5), ("cover", 4, 7, 5)], [("cover", 2, 7, 5)], True)
        self.check([("cover", 4, 7, 5), ("cover", 2, 4, 5)], [("cover", 2, 7, 5)], True)
        self.check([("cover", 2, 5, 5), ("cover", 3, 7, 5)], [("cover", 2, 7, 5)], True)
        self.check([("cover", 2, 4, 5), ("cover", 4, 7, 6)], [("cover", 2, 7, 5)], False)
        self.check([("cover", 2, 4, 5), ("cover", 5, 7, 5)], [("cover", 2, 7, 5)], False)
        self.check([("cover", 2, 4, None), ("cover", 4, 7, None)], [("cover", 2, 7, None)], True)

    def test_cover_cut_in_two(self):
        self.check([("cover", 2, 7, 9), ("cover", 4, 5, 8)],
                   [("cover", 2, 4, 9), ("cover", 4, 5, 8), ("cover", 5, 7, 9)], True)

    def test_raises_summed_and_taken_back(self):
        self.check([("raise", 2, 4, 1), ("raise", 2, 4, 2)], [("raise", 2, 4, 3)], True)
        self.check([("raise", 2, 4, 1), ("raise", 4, 7, 1)], [("raise", 2, 7, 1)], True)
        self.check([("raise", 2, 4, 1), ("raise", 2, 5, -1)], [("raise", 4, 5, -1)], True)
        self.check([("raise", 2, 5, 1), ("raise", 4, 8, 3)], [("raise", 4, 8, 3), ("raise", 2, 5, 1)], True)
        self.check([("raise", 2, 4, 1), ("raise", 2, 4, 2)], [("raise", 2, 4, 4)], False)

    def test_raised_price(self):
        self.check([("cover", 2, 6, 5), ("raise", 2, 6, 4)], [("cover", 2, 6, 9)], True)
        self.check([("cover", 2, 6, None), ("raise", 2, 6, 4)], [("cover", 2, 6, None)], True)
        self.check([("cover", 2, 6, 0), ("raise", 2, 6, 4)], [("cover", 2, 6, None)], False)

    def test_repeat_of_a_covered_day(self):
        self.check([("cover", 2, 6, 5), ("repeat", 8, 9, 3)], [("cover", 2, 6, 5), ("cover", 8, 9, 5)], True)
        self.check([("cover", 2, 6, 5), ("repeat", 8, 9, 6)], [("cover", 2, 6, 5), ("cover", 8, 9, 5)], False)

    def test_what_stood_ahead_of_an_end_a_take_a_cover(self):
        for deed, last, behind_it in [
            (("put", 3, 5), ("take", 3), False), (("put", 3, 5), ("end", 3), False), (("put", 3, 5), ("end", 0), False),
            (("take", 4), ("end", 2), True), (("end", 5), ("end", 2), True), (("raise", 4, 9, 1), ("end", 4), False),
            (("repeat", 4, 9, 0), ("end", 4), False), (("cover", 4, 5, 1), ("cover", 3, 6, 1), True),
            (("cover", 4, 5, 2), ("cover", 3, 6, 1), False), (("raise", 4, 5, 1), ("cover", 3, 6, 1), False),
            (("raise", 3, 6, 1), ("cover", 3, 6, 1), False), (("repeat", 4, 5, 9), ("repeat", 3, 6, 0), False),
            (("take", 3), ("take", 3), True), (("take", 3), ("put", 3, 8), False), (("put", 3, 1), ("put", 3, 8), False),
        ]:
            self.check([deed, last], [last], True)
            self.check([last, deed], [last], behind_it)

    def test_what_does_not_stand_ahead_of_it(self):
        # What was in force on the day behind comes back there.
        for deed in (("put", 6, 5), ("put", 3, 5), ("put", 4, 5), ("take", 4), ("raise", 4, 7, 1), ("end", 5)):
            self.check([deed, ("cover", 3, 6, 1)], [("cover", 3, 6, 1)], False)
        self.check([("put", 3, 5), ("end", 4)], [("end", 4)], False)
        # The entry behind the raise comes from the one ahead of it.
        self.check([("raise", 3, 5, 1), ("take", 3)], [("take", 3)], False)

    def test_same_in_force_but_not_the_same_entries(self):
        # Ahead of one deed more that tells them apart.
        for one, other, deed in [
            ([("raise", 2, 4, 0)], [], ("put", 1, 7)),
            ([("raise", 2, 4, 0)], [], ("take", 3)),
            ([("put", 2, 5), ("raise", 2, 4, 0)], [("put", 2, 5)], ("put", 3, 9)),
            ([("cover", 2, 6, 5)], [("cover", 2, 4, 5), ("cover", 4, 6, 5)], ("put", 3, 9)),
            ([("cover", 2, 6, 5)], [("cover", 2, 4, 5), ("cover", 4, 6, 5)], ("take", 2)),
            ([("repeat", 2, 3, 2)], [], ("take", 1)),
            ([("raise", 2, 6, 2)], [("raise", 2, 4, 2), ("raise", 4, 6, 2)], ("end", 3)),
            ([("raise", 2, 6, 2)], [("raise", 2, 4, 2), ("raise", 4, 6, 2)], ("put", 3, None)),
        ]:
            self.check(one, other, True)
            self.check(one + [deed], other + [deed], plain.alike(one + [deed], other + [deed], plain.all_lists(range(9))))
        self.check([("raise", 2, 4, 0), ("put", 1, 7)], [("put", 1, 7)], False)
        self.check([("cover", 2, 6, 5), ("put", 3, 9)],
                   [("cover", 2, 4, 5), ("cover", 4, 6, 5), ("put", 3, 9)], False)
        self.check([("cover", 2, 6, 5), ("take", 2)],
                   [("cover", 2, 4, 5), ("cover", 4, 6, 5), ("take", 2)], False)
        self.check([("repeat", 2, 3, 2), ("put", 1, 4)], [("put", 1, 4)], False)

    def test_unlike_only_by_two_entries(self):
        one = [("repeat", 0, 2, 9), ("take", 2)]
        other = one + [("repeat", 5, 6, 9)]
        self.assertTrue(plain.alike(one, other, [entries for entries in plain.few_lists(range(11)) if len(entries) < 2]))
        self.check(one, other, False)
        prices, day = unlike(Program(one), Program(other))
        self.assertEqual((len(prices), day), (2, 5))

    def test_unlike_only_on_the_day_behind_all(self):
        self.check([("put", 4, 1), ("take", 4), ("take", 0)], [("take", 0), ("take", 4)], True)
        self.check([("end", 4)], [("take", 4)], False)
        self.check([("end", 4), ("end", 0)], [("take", 4), ("end", 0)], True)
        self.check([("end", 0)], [("take", 0)], False)

    def test_day_0(self):
        self.check([("put", 0, None), ("end", 1)], [("end", 0)], True)
        self.check([("cover", 0, 1, 5)], [("put", 0, 5)], False)
        self.check([("cover", 0, 1, 5), ("end", 1)], [("put", 0, 5), ("end", 1)], True)
        self.check([("take", 0), ("end", 0)], [("end", 0)], True)

    def test_numbers_at_the_bounds(self):
        most = [("raise", 3, 5, 9999)] * 6
        self.check(most, most[1:] + [("raise", 3, 5, 9998)], False)
        self.check(most, most[:3] + [("raise", 3, 4, 9999), ("raise", 4, 5, 9999)] + most[5:], False)
        self.check(most, most[:4] + [("raise", 4, 5, 9999), ("raise", 3, 4, 9999)] + most[5:], True)
        self.check([("put", 3, 9999), ("raise", 3, 4, 9999)], [("put", 3, 9999), ("raise", 3, 4, 9998)], False)
        self.check([("put", 3, -9999), ("raise", 3, 4, 9999)], [("put", 3, 0)], False)
        self.check([("cover", 3, 4, -9999), ("raise", 3, 4, 9999)], [("cover", 3, 4, 0)], True)

    def test_an_entry_that_happens_to_tell_what_the_price_does(self):
        # For some price of the entry on day 1 both leave the same.
        for price in (-2, -1, 0, 1, 2):
            self.check([("put", 0, price)], [("end", 0), ("put", 0, price)], False)
            self.check([("end", 1), ("put", 2, price)], [("take", 1), ("put", 2, price)], False)
            self.check([("put", 0, price), ("raise", 1, 3, 1)], [("end", 0), ("put", 0, price), ("raise", 1, 3, 1)], False)

    def test_an_entry_that_happens_to_tell_what_another_one_does(self):
        # On day 5 an entry on day 4 tells the number more; once it is asked ahead of one on day 7.
        for number in (-2, -1, 0, 1, 2):
            one = [("raise", 3, 6, number), ("take", 3), ("take", 6), ("repeat", 0, 2, 9), ("take", 2)]
            self.check(one, one + [("repeat", 5, 6, 9)], False)
            prices, day = unlike(Program(one), Program(one + [("repeat", 5, 6, 9)]))
            self.assertEqual((len(prices), day), (2, 5))

    def test_days_far_behind(self):
        self.check([("put", 402, 5)], [], False)
        self.check([("cover", 40, 402, 5), ("cover", 402, 405, 5)], [("cover", 40, 405, 5)], True)


class ThePlainWay(Pairs):
    def check_all(self, deeds, others, lists):
        expected = plain.alike(deeds, others, lists)
        self.check(deeds, others, expected)
        self.check_lines(deeds, others, expected)
        return expected

    def test_few_days_near_programs(self):
        source = random.Random(61)
        lists = plain.all_lists(range(6))
        found = []
        for _ in range(300):
            deeds = [plain.some_deed(source, 4) for _ in range(source.randint(1, 6))]
            for others in plain.near_ones(source, deeds, 4):
                found.append(self.check_all(deeds, others, lists))
        self.assertGreater(found.count(True), 50)
        self.assertGreater(found.count(False), 50)

    def test_few_days_all_orders(self):
        source = random.Random(62)
        lists = plain.all_lists(range(6))
        found = []
        for _ in range(500):
            deeds = [plain.some_deed(source, 4) for _ in range(source.randint(2, 4))]
            found.append(self.check_all(deeds, source.sample(deeds, len(deeds)), lists))
        self.assertGreater(found.count(True), 20)
        self.assertGreater(found.count(False), 20)

    def test_very_few_days_any_two_programs(self):
        source = random.Random(63)
        lists = plain.all_lists(range(4))
        found = []
        for _ in range(1500):
            deeds, others = [
                [plain.some_deed(source, 2) for _ in range(source.randint(0, 6))] for _ in range(2)
            ]
            found.append(self.check_all(deeds, others, lists))
        self.assertGreater(found.count(True), 3)

    def test_each_two_deeds_on_three_days(self):
        deeds = [("put", 1, 3), ("put", 2, None), ("take", 1), ("take", 2), ("end", 1), ("end", 2), ("cover", 0, 1, 3),
                 ("cover", 1, 2, 3), ("cover", 0, 2, None), ("raise", 0, 1, 0), ("raise", 1, 2, 2), ("raise", 0, 2, -2),
                 ("repeat", 0, 1, 1), ("repeat", 0, 1, 2), ("repeat", 1, 2, 0), ("repeat", 0, 2, 3)]
        lists = plain.all_lists(range(5))
        effects = {(one, other): plain.effect([one, other], lists, 6) for one in deeds for other in deeds}
        for one in deeds:
            for other in deeds:
                for pair in ((one, other), (other, one), (one, one), (other, other)):
                    expected = effects[one, other] == effects[pair]
                    self.check([one, other], list(pair), expected)

    def test_days_to_40(self):
        source = random.Random(64)
        found = []
        for _ in range(80):
            deeds = [plain.some_deed(source, 40) for _ in range(source.randint(3, 6))]
            others = source.choice(plain.near_ones(source, deeds, 40))
            found.append(self.check_all(deeds, others, plain.few_lists(plain.days_that_matter(deeds + others))))
        self.assertIn(True, found)
        self.assertIn(False, found)

    def test_days_to_40_all_lists(self):
        source = random.Random(65)
        for _ in range(40):
            deeds = [plain.some_deed(source, 40) for _ in range(2)]
            for others in plain.near_ones(source, deeds, 40):
                days = plain.days_that_matter(deeds + others)
                lists = plain.all_lists(days) if len(days) <= 9 else plain.few_lists(days)
                self.check_all(deeds, others, lists)

    def test_few_days_spread_to_40(self):
        # The same deeds on few days far apart, so that there is room between them.
        source = random.Random(66)
        places = [0, 7, 8, 21, 40]
        lists = plain.all_lists((0, 3, 7, 8, 9, 20, 21, 30, 40, 41))[::7] + plain.few_lists((0, 3, 6, 7, 8, 9, 20, 21, 30, 40, 41))
        for _ in range(200):
            deeds = [plain.some_deed(source, 4) for _ in range(source.randint(2, 6))]
            spread = [self.spread(deed, places) for deed in deeds]
            others = source.choice(plain.near_ones(source, spread, 40))
            if set(plain.named_days(others)) <= set(places):
                self.check_all(spread, others, lists)

    def spread(self, deed, places):
        many = {"put": 1, "take": 1, "end": 1, "repeat": 3}.get(deed[0], 2)
        return (deed[0], *[places[day] for day in deed[1:1 + many]], *deed[1 + many:])


class Arguments(unittest.TestCase):
    def test_by_position_and_by_name(self):
        one, other = Program([("put", 3, 5)]), Program([])
        self.assertIs(alike(one=one, other=other), False)
        self.assertIs(alike(one, other=Program([("put", 3, 5)])), True)
        self.assertIs(alike(other=one, one=one), True)
        for prices, day in (unlike(one=one, other=other), unlike(one, other=other)):
            self.assertNotEqual(one.done(prices)[day], other.done(prices)[day])
        self.assertIsNone(unlike(other=one, one=one))

    def test_a_told_list_may_be_changed(self):
        one, other = Program([("put", 3, 5)]), Program([])
        first, day = unlike(one, other)
        first.entries.append((9, 9))
        self.assertEqual(unlike(one, other), (first, day))
        self.assertEqual([one.deeds, other.deeds], [[("put", 3, 5)], []])


if __name__ == "__main__":
    unittest.main()
