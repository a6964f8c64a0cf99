"""Inputs at the bounds of promise [2] are answered at once."""

import random
import time
import unittest

from inforce.boards import Board, CalmBoard
from inforce.cases import answer, cases, fits, judge, line, line_answer
from inforce.compare import alike, least_sets, may_change_places, needless, same_days, sure, unlike, untouched
from inforce.errors import LateDeed
from inforce.lists import PriceList
from inforce.programs import Program
from inforce.readings import read_prices, read_program
from inforce.texts import show_prices, show_program
from tests import plain


class AtOnce(unittest.TestCase):
    # Far above what a call needs, far below what going through all lists would take.
    SECONDS = 0.5

    def at_once(self, call, *things):
        begin = time.process_time()
        told = call(*things)
        self.assertLess(time.process_time() - begin, self.SECONDS)
        return told

    def test_lists(self):
        source = random.Random(51)
        for _ in range(20):
            one, other = [
                self.at_once(PriceList, [(day, plain.some_price(source)) for day in source.sample(range(403), 60)])
                for _ in range(2)
            ]
            self.at_once(one.first_unlike, other)
            self.at_once(one.alike, other)
            self.at_once(one.changes)
            same = PriceList(one.entries)
            self.assertIsNone(self.at_once(one.first_unlike, same))
            self.at_once(lambda: [one[day] for day in range(403)])

    def test_programs_of_30_deeds(self):
        source = random.Random(52)
        for top in (40, 402):
            for _ in range(20):
                deeds = [plain.some_deed(source, top) for _ in range(30)]
                program = self.at_once(Program, deeds)
                prices = PriceList([(day, plain.some_price(source)) for day in source.sample(range(403), 60)])
                behind = self.at_once(program.done, prices)
                expected = plain.done(dict(prices.entries), deeds)
                self.assertEqual(behind.entries, sorted(expected.items(), key=lambda entry: entry[0]))
                self.assertEqual(len(self.at_once(lambda: program + program)), 60)
                self.at_once(program.days)
                self.assertEqual(len(self.at_once(program.without, 29)), 29)

    def test_lines_and_told_cases(self):
        source = random.Random(53)
        kinds = ("take", "take", "repeat", "raise", "put")
        for _ in range(150):
            program = Program([plain.some_deed(source, 40, kinds) for _ in range(6)])
            day = source.randint(20, 41)
            self.at_once(line, program, day)
            told = self.at_once(cases, program, day)
            self.assertIs(self.at_once(judge, program, day, told), True)
            prices = PriceList([(at, plain.some_price(source)) for at in source.sample(range(403), 60)])
            self.assertEqual(sum([self.at_once(fits, case, prices) for case in told]), 1)
            self.at_once(answer, told[-1], prices)

    def test_most_spans(self):
        # A line of seven spans. Turned over, its cases fit each list just once, too,
        # so with both together there are 64 of up to 14 conditions.
        deeds = [("take", day) for day in (5, 10, 15, 20, 25, 30)]
        program = Program(deeds)
        told = cases(program, 40)
        self.assertEqual(len(told), 8)
        self.assertIs(self.at_once(judge, program, 40, told), True)
        turned = [([(first, last, not has) for first, last, has in conditions], words) for conditions, words in told]
        self.assertIs(self.at_once(judge, program, 40, turned), False)
        joined = [(conditions + more, words) for conditions, words in told for more, _ in turned]
        self.assertIs(self.at_once(judge, program, 40, joined), True)
        self.assertIs(self.at_once(judge, program, 40, joined[:1] + joined[2:]), False)

    def test_line_of_20_spans(self):
        spans = [(2 * at, 2 * at, at) for at in range(20)][::-1]
        lists = [[], [(0, 5)], [(1, 5)], [(38, 7), (0, 5)], [(day, day) for day in range(1, 60, 2)] + [(4, 9)]]
        expected = [-1, 5, -1, 26, 11]
        for entries, price in zip(lists, expected):
            self.assertEqual(self.at_once(line_answer, (spans, -1), PriceList(entries)), price)

    def some_case(self, source):
        conditions = [
            (*sorted((source.randint(0, 40), source.randint(0, 40))), source.random() < 0.5) for _ in range(3)
        ]
        return conditions, ("of", source.randint(0, 40), source.choice((0, 99999)))

    def test_any_six_cases_of_three_conditions(self):
        source = random.Random(54)
        for _ in range(150):
            program = Program([plain.some_deed(source, 40) for _ in range(6)])
            self.at_once(judge, program, source.randint(0, 41), [self.some_case(source) for _ in range(6)])

    def test_six_right_cases_with_many_days(self):
        # All that fits is asked here: every pair of cases, and each of the days.
        spans = [(0, 6), (9, 20), (25, 37)]
        (a, no_a), (b, no_b), (c, no_c) = [((*span, True), (*span, False)) for span in spans]
        wheel = [[a, no_b], [b, no_c], [c, no_a], [no_a, no_b, no_c], [a, b, c, (30, 31, True)], [a, b, c, (30, 31, False)]]
        program = Program([("raise", day, day + 8, 2) for day in range(0, 30, 5)])
        told = [(conditions, ("of", 40, 0)) for conditions in wheel]
        self.assertIs(self.at_once(judge, program, 40, told), True)
        self.assertIs(self.at_once(judge, program, 32, told), False)
        told[4] = (wheel[4], ("of", 39, 0))
        self.assertIs(self.at_once(judge, program, 40, told), False)

    def test_cases_over_each_day(self):
        # As many stretches as there are days, and a case for each of them.
        told = [([(day + 1, 40, False), (day, day, True)], ("of", day, 0)) for day in range(41)]
        told.append(([(0, 40, False)], ("price", None)))
        self.assertIs(self.at_once(judge, Program([]), 40, told), True)
        told[3] = (told[3][0], ("of", 2, 0))
        self.assertIs(self.at_once(judge, Program([]), 40, told), False)

    def check_compared(self, deeds, others):
        program, other = Program(deeds), Program(others)
        same = self.at_once(alike, program, other)
        self.assertIs(self.at_once(unlike, program, other) is None, same)
        for index in range(len(deeds) - 1):
            self.at_once(may_change_places, program, index)
        idle = self.at_once(needless, program)
        least = self.at_once(least_sets, program)
        for index in idle:
            self.assertTrue(any(index not in chosen for chosen in least))
        for day in (0, 20, 40, 41):
            self.at_once(untouched, program, day)
            self.at_once(sure, program, day)
            self.at_once(same_days, program, day, 20)

    def test_programs_of_6_deeds_compared(self):
        source = random.Random(55)
        for top in (3, 40):
            for kinds in (("put", "take", "end", "cover", "raise", "repeat"), ("take", "repeat", "raise"), ("raise",), ("take",)):
                for _ in range(25):
                    deeds = [plain.some_deed(source, top, kinds) for _ in range(6)]
                    self.check_compared(deeds, source.choice(plain.near_ones(source, deeds, top)))
                    self.check_compared(deeds, source.sample(deeds, 6))

    def test_lines_of_most_spans_compared(self):
        # All deeds change places here, and none is needless: each question goes to its end.
        deeds = [("take", day) for day in (5, 10, 15, 20, 25, 40)]
        self.check_compared(deeds, deeds[::-1])
        self.check_compared(deeds, deeds[:5] + [("take", 39)])
        # And here all sets of one deed do.
        self.check_compared([("take", 40)] * 6, [("take", 40)])

    def check_board(self, kind, source):
        begin = time.process_time()
        board = kind(PriceList([(day, plain.some_price(source)) for day in range(41)]))
        late = 0
        for call in range(50):
            deed = plain.some_deed(source, 40)
            if len(board) == 40:
                self.at_once(board.drop, source.randrange(40))
            self.at_once(board, deed)
            if len(board) == 40:
                self.at_once(board.undo)
            try:
                self.at_once(board.late, deed, max(0, len(board) - 5))
            except LateDeed:
                late += 1
            self.at_once(lambda: (board.prices, board.program, len(board)))
        # All calls of a board together, too.
        self.assertLess(time.process_time() - begin, 2)
        return late

    def test_boards_of_40_deeds_and_200_calls(self):
        source = random.Random(56)
        for _ in range(5):
            self.assertEqual(self.check_board(Board, source), 0)
            self.assertGreater(self.check_board(CalmBoard, source), 0)

    def test_texts_of_3000_characters(self):
        entries = [(day, None) for day in range(518)]
        text = self.at_once(show_prices, PriceList(entries))
        self.assertEqual(self.at_once(read_prices, text).entries, entries)
        deeds = [("end", 0)] * 428
        text = self.at_once(show_program, Program(deeds))
        self.assertEqual(len(text), 2994)
        self.assertEqual(self.at_once(read_program, text).deeds, deeds)


if __name__ == "__main__":
    unittest.main()
