"""Promises [2], [3], [7], [8] and inforce/cases.py: cases, fits and answer."""

import itertools
import random
import unittest

from inforce.cases import answer, cases, fits, judge, line, line_answer
from inforce.errors import InvalidDay
from inforce.lists import PriceList
from inforce.programs import Program
from tests import plain


class Fits(unittest.TestCase):
    def test_no_condition(self):
        for entries in ([], [(3, 4)]):
            self.assertIs(fits(([], ("price", 1)), PriceList(entries)), True)

    def test_one_condition(self):
        for entries, has in [
            ([], False), ([(2, 1)], False), ([(3, 1)], True), ([(4, None)], True), ([(5, 1)], True), ([(6, 1)], False),
            ([(2, 1), (6, 1)], False), ([(2, 1), (4, 1)], True),
        ]:
            prices = PriceList(entries)
            self.assertIs(fits(([(3, 5, True)], ("price", 1)), prices), has)
            self.assertIs(fits(([(3, 5, False)], ("price", 1)), prices), not has)

    def test_a_single_day(self):
        self.assertIs(fits(([(0, 0, True)], ("price", 1)), PriceList([(0, None)])), True)
        self.assertIs(fits(([(0, 0, False)], ("price", 1)), PriceList([(1, 1)])), True)

    def test_all_conditions_must_hold(self):
        lists = [PriceList([(day, 1) for day in chosen]) for size in range(4) for chosen in itertools.combinations((1, 4, 7), size)]
        for wanted in itertools.product((True, False), repeat=3):
            conditions = [(first, first + 1, has) for first, has in zip((0, 4, 6), wanted)]
            for size in range(4):
                for prices in lists:
                    days = [day for day, _ in prices.entries]
                    holds = [((day in days) == has) for day, has in zip((1, 4, 7), wanted)]
                    self.assertIs(fits((conditions[:size], ("price", 1)), prices), all(holds[:size]))

    def test_conditions_at_odds(self):
        for entries in ([], [(3, 1)], [(9, 1)]):
            self.assertIs(fits(([(3, 3, True), (3, 3, False)], ("price", 1)), PriceList(entries)), False)

    def test_as_the_plain_way(self):
        source = random.Random(31)
        for _ in range(500):
            conditions = [
                (*sorted((source.randint(0, 9), source.randint(0, 9))), source.random() < 0.5)
                for _ in range(source.randint(0, 3))
            ]
            entries = plain.some_entries(source, 9, 6)
            case = (conditions, ("price", 1))
            self.assertIs(fits(case, PriceList(entries)), plain.fits(case, dict(entries)))


class Answers(unittest.TestCase):
    def test_price(self):
        for price in (5, 0, -9999, None):
            for entries in ([], [(3, 4)]):
                self.assertEqual(answer(([], ("price", price)), PriceList(entries)), price)

    def test_of_a_day(self):
        prices = PriceList([(3, 4), (6, None), (8, -1)])
        for day, expected in [(0, None), (2, None), (3, 14), (5, 14), (6, None), (7, None), (8, 9), (400, 9)]:
            self.assertEqual(answer(([], ("of", day, 10)), prices), expected)
        self.assertEqual([answer(([], ("of", 4, number)), prices) for number in (0, -4, 99999)], [4, 0, 100003])
        self.assertIsNone(answer(([], ("of", 4, 3)), PriceList([])))

    def test_conditions_do_not_matter(self):
        self.assertEqual(answer(([(0, 9, False)], ("of", 4, 0)), PriceList([(3, 4)])), 4)


class Cases(unittest.TestCase):
    def check(self, deeds, day, lists):
        told = cases(Program(deeds), day)
        for entries in lists:
            prices = PriceList(list(entries.items()))
            fitting = [case for case in told if fits(case, prices)]
            self.assertEqual(len(fitting), 1, (deeds, day, entries))
            expected = plain.force(plain.done(entries, deeds), day)
            self.assertEqual(answer(fitting[0], prices), expected, (deeds, day, entries))

    def check_form(self, told):
        self.assertIs(type(told), list)
        for case in told:
            self.assertIs(type(case), tuple)
            conditions, words = case
            self.assertIs(type(conditions), list)
            for first, last, has in conditions:
                self.assertTrue(0 <= first <= last)
                self.assertIs(type(has), bool)
            self.assertIs(type(words), tuple)
            self.assertEqual(len(words), {"price": 2, "of": 3}[words[0]])

    def test_all_sets_of_entries_on_few_days(self):
        source = random.Random(32)
        lists = list(plain.lists_over([(day, day) for day in range(6)]))
        for _ in range(100):
            self.check(plain.some_deeds(source, 4, 6), source.randint(0, 5), lists)

    def test_days_to_40(self):
        source = random.Random(33)
        for _ in range(200):
            deeds = plain.some_deeds(source, 40, 6)
            days = plain.named_days(deeds)
            near = sorted({at for day in days for at in (day - 1, day, day + 1) if at >= 0})
            lists = [{at: plain.some_price(source) for at in near if source.random() < 0.5} for _ in range(15)]
            lists += [dict(plain.some_entries(source, 40, 6)) for _ in range(5)]
            for day in [source.randint(0, 40), max([0] + days) + 1]:
                self.check(deeds, day, lists)
                self.check_form(cases(Program(deeds), day))

    def test_judge_takes_them(self):
        source = random.Random(34)
        for _ in range(200):
            program, day = Program(plain.some_deeds(source, 40, 6)), source.randint(0, 41)
            self.assertIs(judge(program, day, cases(program, day)), True)

    def test_negative_day(self):
        for day in (-1, -40):
            with self.assertRaises(InvalidDay) as caught:
                cases(Program([("take", 10)]), day)
            self.assertEqual(caught.exception.value, day)
        self.check([("put", 0, 4)], 0, [{}, {0: 1}, {1: 1}])


class CaseArguments(unittest.TestCase):
    TAKE = [("take", 10), ("take", 15), ("raise", 2, 9, 1)]

    def test_what_is_told_is_new(self):
        program = Program(self.TAKE)
        expected = repr(cases(program, 20))
        told = cases(program, 20)
        again = cases(program, 20)
        lists = [told, again] + [conditions for conditions, _ in told + again]
        self.assertGreater(len(told), 2)
        self.assertEqual(len({id(one) for one in lists}), len(lists))
        for conditions, _ in told:
            conditions.append((0, 0, True))
        told.append("more")
        self.assertEqual(repr(again), expected)
        self.assertEqual(repr(cases(program, 20)), expected)
        self.assertEqual(program.deeds, self.TAKE)

    def test_arguments_stay(self):
        program, prices = Program(self.TAKE), PriceList([(3, 4)])
        told = cases(program, 20)
        expected = repr(told)
        judge(program, 20, told)
        for case in told:
            fits(case, prices)
            answer(case, prices)
        self.assertEqual(repr(told), expected)
        self.assertEqual([program.deeds, prices.entries], [self.TAKE, [(3, 4)]])

    def test_cases_changed_behind_a_call(self):
        put = Program([("put", 10, 5)])
        case, prices = ([(3, 4, True)], ("of", 5, 0)), PriceList([(3, 4)])
        self.assertIs(fits(case, prices), True)
        case[0].append((7, 8, True))
        self.assertIs(fits(case, prices), False)
        case[0].clear()
        self.assertIs(fits(case, prices), True)
        told = [([(11, 20, True)], ("of", 20, 0)), ([(11, 20, False)], ("price", 5))]
        self.assertIs(judge(put, 20, told), True)
        told[0][0][0] = (12, 20, True)
        self.assertIs(judge(put, 20, told), False)
        told[0][0][0] = (11, 20, True)
        self.assertIs(judge(put, 20, told), True)
        left = told.pop()
        self.assertIs(judge(put, 20, told), False)
        told.insert(0, left)
        self.assertIs(judge(put, 20, told), True)

    def test_by_name(self):
        put = Program([("put", 10, 5)])
        told = cases(program=put, day=20)
        self.assertIs(judge(program=put, day=20, told=told), True)
        case, prices = ([(11, 20, True)], ("of", 20, 3)), PriceList([(15, 8)])
        self.assertIs(fits(case=case, prices=prices), True)
        self.assertEqual(answer(case=case, prices=prices), 11)

    def test_cases_tell_what_the_line_tells(self):
        program = Program(self.TAKE)
        for entries in ([], [(16, 3)], [(12, 4), (10, 1)], [(9, 5)], [(0, 6), (15, 1)]):
            prices = PriceList(entries)
            fitting = [case for case in cases(program, 20) if fits(case, prices)]
            self.assertEqual(answer(fitting[0], prices), line_answer(line(program, 20), prices))

    def test_where_they_are_defined(self):
        for function in (cases, fits, answer, judge):
            self.assertEqual(function.__module__, "inforce.cases")


if __name__ == "__main__":
    unittest.main()
