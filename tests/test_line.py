"""Promises [2], [3], [8] and inforce/cases.py: line and line_answer."""

import itertools
import random
import unittest

from inforce.cases import line, line_answer
from inforce.errors import InvalidDay
from inforce.lists import PriceList
from inforce.programs import Program
from tests import plain


class LinesByHand(unittest.TestCase):
    def check(self, deeds, day, spans, price):
        self.assertEqual(line(Program(deeds), day), (spans, price))

    def test_no_deeds(self):
        self.check([], 0, [(0, 0, 0)], None)
        self.check([], 40, [(0, 40, 0)], None)
        self.check([], 402, [(0, 402, 0)], None)

    def test_put(self):
        self.check([("put", 10, 5)], 9, [(0, 9, 0)], None)
        self.check([("put", 10, 5)], 10, [], 5)
        self.check([("put", 10, 5)], 11, [(11, 11, 0)], 5)
        self.check([("put", 10, None)], 20, [(11, 20, 0)], None)
        self.check([("put", 0, 5)], 3, [(1, 3, 0)], 5)
        self.check([("put", 0, 5)], 0, [], 5)

    def test_take(self):
        self.check([("take", 10)], 9, [(0, 9, 0)], None)
        self.check([("take", 10)], 10, [(0, 9, 0)], None)
        self.check([("take", 10)], 11, [(11, 11, 0), (0, 9, 0)], None)
        self.check([("take", 0)], 20, [(1, 20, 0)], None)
        self.check([("take", 0)], 0, [], None)
        self.check([("take", 3), ("take", 6)], 8, [(7, 8, 0), (4, 5, 0), (0, 2, 0)], None)
        self.check([("take", 6), ("take", 3)], 8, [(7, 8, 0), (4, 5, 0), (0, 2, 0)], None)
        self.check([("take", 4), ("take", 3)], 8, [(5, 8, 0), (0, 2, 0)], None)

    def test_end(self):
        self.check([("end", 5)], 4, [(0, 4, 0)], None)
        self.check([("end", 5)], 5, [(0, 4, 0)], None)
        self.check([("end", 5)], 20, [(0, 4, 0)], None)
        self.check([("end", 21)], 20, [(0, 20, 0)], None)
        self.check([("end", 0)], 20, [], None)

    def test_cover(self):
        for price in (9, None):
            cover = [("cover", 3, 6, price)]
            self.check(cover, 2, [(0, 2, 0)], None)
            self.check(cover, 3, [], price)
            self.check(cover, 5, [], price)
            self.check(cover, 6, [(0, 6, 0)], None)
            self.check(cover, 7, [(0, 7, 0)], None)

    def test_raise(self):
        self.check([("raise", 2, 8, 1)], 1, [(0, 1, 0)], None)
        self.check([("raise", 2, 8, 1)], 2, [(0, 2, 1)], None)
        self.check([("raise", 2, 8, 1)], 7, [(0, 7, 1)], None)
        self.check([("raise", 2, 8, 1)], 8, [(0, 8, 0)], None)
        self.check([("raise", 0, 1, -4)], 0, [(0, 0, -4)], None)
        self.check([("raise", 2, 8, 1), ("raise", 3, 9, -5)], 5, [(0, 5, -4)], None)

    def test_repeat(self):
        for day in (5, 8):
            self.check([("repeat", 5, 9, 20)], day, [(0, 20, 0)], None)
            self.check([("repeat", 5, 9, 0)], day, [(0, 0, 0)], None)
            self.check([("repeat", 5, 9, 7)], day, [(0, 7, 0)], None)
        self.check([("repeat", 5, 9, 20)], 4, [(0, 4, 0)], None)
        self.check([("repeat", 5, 9, 20)], 9, [(0, 9, 0)], None)

    def test_numbers_over_prices(self):
        self.check([("put", 10, 5), ("raise", 4, 15, 2)], 12, [(11, 12, 2)], 7)
        self.check([("put", 10, None), ("raise", 4, 15, 2)], 12, [(11, 12, 2)], None)
        self.check([("raise", 4, 15, 2), ("put", 10, 5)], 12, [(11, 12, 2)], 5)
        self.check([("cover", 3, 6, 9), ("raise", 2, 8, 1)], 4, [], 10)
        self.check([("cover", 3, 6, None), ("raise", 2, 8, 1)], 4, [], None)
        self.check([("raise", 3, 10, 4), ("take", 10)], 20, [(11, 20, 0), (0, 9, 4)], None)

    def test_spans_that_are_joined(self):
        self.check([("repeat", 5, 10, 10), ("take", 10)], 20, [(0, 20, 0)], None)
        self.check([("repeat", 5, 10, 12), ("take", 10)], 20, [(0, 20, 0)], None)
        self.check([("repeat", 5, 10, 10), ("take", 10), ("take", 15)], 20, [(16, 20, 0), (0, 14, 0)], None)
        self.check([("raise", 5, 10, 0), ("take", 10), ("put", 2, 7)], 4, [(3, 4, 0)], 7)
        deeds = [("repeat", 22, 24, 24), ("take", 24), ("repeat", 5, 10, 30), ("take", 10), ("raise", 2, 35, 3)]
        self.check(deeds[1:], 20, [(11, 20, 3), (25, 30, 3), (21, 23, 3), (0, 10, 3)], None)
        self.check(deeds, 20, [(11, 20, 3), (21, 30, 3), (0, 10, 3)], None)

    def test_spans_that_touch_but_are_not_joined(self):
        self.check([("repeat", 3, 11, 11), ("raise", 5, 11, 1), ("take", 11)], 20, [(12, 20, 0), (0, 11, 1)], None)
        # The later span tells of later days: so no two of them may be joined.
        self.check([("repeat", 5, 10, 30), ("take", 10)], 20, [(11, 20, 0), (21, 30, 0), (0, 10, 0)], None)
        self.check([("repeat", 5, 10, 30), ("take", 10)], 9, [(0, 30, 0)], None)
        # What ends behind a stretch that was covered does not come back.
        self.check([("cover", 3, 6, 9), ("take", 6)], 8, [(7, 8, 0)], 9)
        self.check([("cover", 3, 6, 9), ("take", 3)], 5, [(0, 2, 0)], None)
        self.check([("cover", 3, 6, 9), ("take", 3), ("end", 6)], 8, [(0, 2, 0)], None)

    def test_day_beyond_402(self):
        self.check([("take", 10)], 10 ** 6, [(11, 10 ** 6, 0), (0, 9, 0)], None)


class LinesThePlainWay(unittest.TestCase):
    def check_line(self, deeds, day):
        told = line(Program(deeds), day)
        self.assertEqual(told, plain.line(deeds, day), (deeds, day))
        self.assertTrue(plain.is_line(told), (deeds, day))

    def test_exact_line_of_each_deed(self):
        for first, behind in itertools.combinations(range(4), 2):
            for deed in [("cover", first, behind, 7), ("cover", first, behind, None), ("raise", first, behind, 3),
                         *[("repeat", first, behind, day) for day in range(5)]]:
                for other in [("take", 2), ("put", 1, 4), ("end", 2), ("raise", 1, 3, -2), ("repeat", 0, 2, 3)]:
                    for day in range(6):
                        self.check_line([deed], day)
                        self.check_line([deed, other], day)
                        self.check_line([other, deed], day)

    def test_exact_line_at_random(self):
        source = random.Random(21)
        for _ in range(700):
            deeds = plain.some_deeds(source, source.choice((3, 5, 8)), 6)
            self.check_line(deeds, source.randint(0, max([0] + plain.named_days(deeds)) + 1))

    def test_exact_line_where_deeds_name_the_same_days(self):
        source = random.Random(27)
        for _ in range(700):
            days = sorted(source.sample(range(12), 5))
            deeds = []
            for _ in range(6):
                first, behind = sorted(source.sample(days, 2))
                deeds.append(source.choice((
                    ("take", behind), ("take", first), ("repeat", first, behind, source.choice(days)),
                    ("raise", first, behind, source.choice((0, 0, 1))),
                )))
            self.check_line(deeds, source.randint(6, 12))

    def test_exact_line_on_days_to_40(self):
        source = random.Random(22)
        for _ in range(60):
            deeds = [plain.some_deed(source, 40, ("put", "take", "raise", "take", "repeat")) for _ in range(6)]
            self.check_line(deeds, source.randint(15, 41))

    def test_answers_for_all_sets_of_entries_on_few_days(self):
        source = random.Random(23)
        lists = [
            {day: plain.far_price(day) for day in range(6) if chosen[day]}
            for chosen in itertools.product((False, True), repeat=6)
        ]
        ready = [(entries, PriceList(list(entries.items()))) for entries in lists]
        for _ in range(150):
            deeds = plain.some_deeds(source, 4, 6)
            told = [line(Program(deeds), day) for day in range(6)]
            for entries, prices in ready:
                behind = plain.done(entries, deeds)
                self.assertEqual(
                    [line_answer(told[day], prices) for day in range(6)],
                    [plain.force(behind, day) for day in range(6)], (deeds, entries),
                )

    def test_answers_for_lists_on_beside_and_between_the_days_of_the_deeds(self):
        source = random.Random(24)
        for _ in range(250):
            deeds = plain.some_deeds(source, 40, 6)
            program = Program(deeds)
            days = plain.named_days(deeds) or [0]
            near = sorted({at for day in days for at in (day - 1, day, day + 1, source.randint(0, 40)) if at >= 0})
            for day in [source.choice(near) for _ in range(4)] + [days[-1] + 1]:
                told = line(program, day)
                for _ in range(8):
                    entries = {at: plain.some_price(source) for at in near if source.random() < 0.4}
                    prices = PriceList(list(entries.items()))
                    expected = plain.force(plain.done(entries, deeds), day)
                    self.assertEqual(line_answer(told, prices), expected, (deeds, entries, day))
                    self.assertEqual(program.done(prices)[day], expected)

    def test_lines_are_the_same_just_if_the_programs_are_alike(self):
        source = random.Random(25)
        alike = 0
        for _ in range(250):
            one, other = [plain.some_deeds(source, 3, 2) for _ in range(2)]
            same_lines = all(line(Program(one), day) == line(Program(other), day) for day in range(6))
            same_prices = all(
                plain.force(plain.done(entries, one), day) == plain.force(plain.done(entries, other), day)
                for entries in plain.lists_over([(day, day) for day in range(5)]) for day in range(6)
            )
            self.assertEqual(same_lines, same_prices, (one, other))
            alike += same_lines
        self.assertGreater(alike, 5)


class LineAnswers(unittest.TestCase):
    def test_by_hand(self):
        told = ([(11, 20, 3), (0, 5, 0), (8, 9, -1)], 70)
        for entries, expected in [
            ([], 70), ([(6, 1), (10, 2), (21, 3)], 70),
            ([(20, 4)], 7), ([(11, 4)], 7), ([(11, 4), (20, 6), (21, 8)], 9), ([(5, 1), (9, 2), (11, 0)], 3),
            ([(5, 1), (8, 2)], 1), ([(0, 1)], 1), ([(3, None), (8, 2)], None), ([(15, None), (3, 2)], None),
            ([(8, 2)], 1), ([(8, 4), (9, 2)], 1), ([(8, 4), (9, None)], None),
        ]:
            self.assertEqual(line_answer(told, PriceList(entries)), expected, entries)

    def test_price_alone(self):
        for price in (5, None, 0, -9999):
            self.assertEqual(line_answer(([], price), PriceList([(3, 4)])), price)
            self.assertEqual(line_answer(([], price), PriceList([])), price)

    def test_lines_that_are_handed_in(self):
        source = random.Random(26)
        for _ in range(300):
            edges = sorted(source.sample(range(45), source.randint(2, 21)))
            spans = [(first, behind - 1, source.randint(-9999, 9999)) for first, behind in zip(edges, edges[1:])]
            source.shuffle(spans)
            told = (spans[:source.randint(0, 20)], plain.some_price(source))
            if not plain.is_line(told):
                continue
            for _ in range(10):
                entries = plain.some_entries(source, 45, source.choice((2, 5, 30)))
                self.assertEqual(line_answer(told, PriceList(entries)), plain.line_answer(told, dict(entries)))


class LineArguments(unittest.TestCase):
    def test_negative_day(self):
        for deeds in ([], [("take", 10)]):
            for day in (-1, -40):
                with self.assertRaises(InvalidDay) as caught:
                    line(Program(deeds), day)
                self.assertEqual(caught.exception.value, day)
            line(Program(deeds), 0)

    def test_what_is_told_is_new(self):
        for deeds in ([], [("put", 10, 5)], [("take", 10)], [("cover", 3, 30, 4)]):
            program = Program(deeds)
            first = line(program, 20)
            expected = (list(first[0]), first[1])
            first[0].append((99, 99, 99))
            self.assertEqual(line(program, 20), expected)
            self.assertIsNot(line(program, 20)[0], line(program, 20)[0])
            self.assertEqual(program.deeds, deeds)

    def test_arguments_stay(self):
        told, prices = ([(11, 20, 3), (0, 5, 0)], 7), PriceList([(3, 4)])
        self.assertEqual(line_answer(told, prices), 4)
        self.assertEqual([told, prices.entries], [([(11, 20, 3), (0, 5, 0)], 7), [(3, 4)]])
        told[0].pop()
        self.assertEqual(line_answer(told, prices), 7)

    def test_kinds_of_values(self):
        told = line(Program([("take", 10)]), 20)
        self.assertEqual([type(told), type(told[0])], [tuple, list])
        self.assertEqual([type(span) for span in told[0]], [tuple, tuple])

    def test_by_name(self):
        told = line(program=Program([("put", 10, 5)]), day=20)
        self.assertEqual(told, ([(11, 20, 0)], 5))
        self.assertEqual(line_answer(told=told, prices=PriceList([(12, 8)])), 8)

    def test_where_they_are_defined(self):
        self.assertEqual([line.__module__, line_answer.__module__], ["inforce.cases"] * 2)


if __name__ == "__main__":
    unittest.main()
