"""Promises [3], [7], [8] and inforce/cases.py: judge."""

import itertools
import random
import unittest

from inforce.cases import cases, judge, line
from inforce.errors import InvalidDay
from inforce.programs import Program
from tests import plain


def both_kinds(span):
    return (*span, True), (*span, False)


class Judged(unittest.TestCase):
    def check(self, deeds, day, told, expected):
        self.assertIs(judge(Program(deeds), day, told), expected, (deeds, day, told))

    def check_plain(self, deeds, day, told):
        expected = plain.judge(deeds, day, told)
        self.check(deeds, day, told, expected)
        return expected


class JudgedByHand(Judged):
    PUT = [("put", 10, 5)]
    TAKE = [("take", 10)]

    def test_no_cases(self):
        for deeds in ([], self.PUT, [("end", 0)]):
            for day in (0, 20):
                self.check(deeds, day, [], False)

    def test_one_case(self):
        self.check([], 20, [([], ("of", 20, 0))], True)
        self.check([], 0, [([], ("of", 0, 0))], True)
        self.check([], 20, [([], ("of", 19, 0))], False)
        self.check([], 20, [([], ("of", 21, 0))], False)
        self.check([], 20, [([], ("of", 20, 1))], False)
        self.check([], 20, [([], ("price", None))], False)
        self.check([("end", 0)], 20, [([], ("price", None))], True)
        self.check([("end", 0)], 20, [([], ("price", 0))], False)
        self.check([("end", 0)], 20, [([], ("of", 20, 0))], False)
        self.check([("end", 5)], 20, [([], ("of", 4, 0))], True)
        self.check([("end", 5)], 20, [([], ("of", 5, 0))], False)
        self.check(self.PUT, 10, [([], ("price", 5))], True)
        self.check(self.PUT, 10, [([], ("price", 6))], False)
        self.check([("raise", 2, 8, 3)], 7, [([], ("of", 7, 3))], True)
        self.check([("raise", 2, 8, 3)], 8, [([], ("of", 8, 3))], False)
        self.check([("repeat", 2, 8, 30)], 7, [([], ("of", 30, 0))], True)

    def test_one_case_that_does_not_fit_all(self):
        for condition in both_kinds((3, 4)) + both_kinds((0, 400)):
            self.check([], 20, [([condition], ("of", 20, 0))], False)

    def test_where_nothing_is_in_force(self):
        has, none = both_kinds((0, 5))
        right = ([has], ("of", 5, 0))
        for words in (("price", None), ("of", 5, 0), ("of", 5, 7), ("of", 0, 99999), ("of", 3, -1)):
            self.check([], 5, [right, ([none], words)], True)
        for words in (("price", 0), ("of", 6, 0), ("of", 400, 0)):
            self.check([], 5, [right, ([none], words)], False)
        self.check([], 5, [right, ([none, (6, 6, False)], ("of", 6, 3)), ([none, (6, 6, True)], ("price", None))], True)

    def test_day_of_the_answer_may_be_another_one(self):
        has, none = both_kinds((11, 20))
        self.check(self.TAKE, 20, [([has], ("of", 20, 0)), ([none], ("of", 9, 0))], True)
        self.check(self.TAKE, 20, [([has], ("of", 20, 0)), ([none], ("of", 10, 0))], False)
        self.check(self.TAKE, 20, [([has], ("of", 19, 0)), ([none], ("of", 9, 0))], False)
        self.check([], 20, [([has], ("of", 20, 0)), ([none], ("of", 10, 0))], True)
        self.check([], 20, [([has], ("of", 20, 0)), ([none], ("of", 15, 0))], True)
        self.check([], 20, [([has], ("of", 20, 0)), ([none], ("of", 9, 0))], False)

    def test_price_that_is_in_force_by_the_program_alone(self):
        has, none = both_kinds((11, 20))
        self.check(self.PUT, 20, [([has], ("of", 20, 0)), ([none], ("price", 5))], True)
        self.check(self.PUT, 20, [([has], ("of", 20, 0)), ([none], ("of", 20, 0))], False)
        self.check(self.PUT, 20, [([has], ("price", 5)), ([none], ("price", 5))], False)
        self.check(self.PUT, 20, [([has], ("of", 20, 0)), ([none], ("price", None))], False)

    def test_bounds_of_conditions(self):
        for first in range(9, 14):
            for last in range(18, 23):
                for other in range(9, 14):
                    told = [([(first, last, True)], ("of", 20, 0)), ([(other, last, False)], ("price", 5))]
                    self.check(self.PUT, 20, told, (first, last, other) == (11, 20, 11))

    def test_two_cases_that_fit_one_list(self):
        right = [([(11, 20, True)], ("of", 20, 0)), ([(11, 20, False)], ("price", 5))]
        self.check(self.PUT, 20, right, True)
        for case in right:
            self.check(self.PUT, 20, right + [case], False)
            self.check(self.PUT, 20, [case] + right, False)
        self.check(self.PUT, 20, right + [([(11, 20, True), (13, 13, True), (4, 4, False)], ("of", 20, 0))], False)
        self.check([], 20, [([], ("of", 20, 0)), ([], ("of", 20, 0))], False)
        self.check([], 20, [([], ("of", 20, 0)), ([(33, 33, True), (31, 31, True), (3, 3, True)], ("of", 20, 0))], False)

    def test_cases_that_fit_no_list_do_not_matter(self):
        right = [([(11, 20, True)], ("of", 20, 0)), ([(11, 20, False)], ("price", 5))]
        never = [
            ([(3, 3, True), (3, 3, False)], ("price", 9)),
            ([(3, 5, False), (6, 8, False), (4, 7, True)], ("of", 2, 4)),
            ([(0, 40, False), (12, 13, True)], ("price", None)),
        ]
        for case in never:
            self.check(self.PUT, 20, right + [case], True)
            self.check(self.PUT, 20, [case, case] + right, True)
            self.check(self.PUT, 20, [case] + right[:1], False)
            self.check([], 20, [case], False)
        self.check(self.PUT, 20, right + [([(3, 5, False), (6, 8, False), (4, 9, True)], ("of", 2, 4))], False)

    def test_line_in_another_order_of_conditions(self):
        self.check(self.TAKE, 20, [
            ([(0, 9, False), (11, 20, False)], ("price", None)),
            ([(0, 9, True), (11, 20, False)], ("of", 10 - 1, 0)),
            ([(0, 9, True), (11, 20, True)], ("of", 20, 0)),
            ([(11, 20, True), (0, 9, False)], ("of", 20, 0)),
        ], True)
        self.check(self.TAKE, 20, [
            ([(16, 20, True)], ("of", 20, 0)),
            ([(11, 15, True), (16, 20, False)], ("of", 17, 0)),
            ([(11, 20, False), (10, 10, True)], ("of", 9, 0)),
            ([(10, 20, False)], ("of", 20, 0)),
        ], True)

    def test_cases_that_no_questions_one_after_the_other_tell(self):
        for one, two, three in itertools.permutations([(3, 5), (8, 12), (13, 14)]):
            (a, no_a), (b, no_b), (c, no_c) = both_kinds(one), both_kinds(two), both_kinds(three)
            wheel = [[a, no_b], [b, no_c], [c, no_a], [a, b, c], [no_a, no_b, no_c]]
            told = [(conditions, ("of", 20, 0)) for conditions in wheel]
            self.check([], 20, told, True)
            self.check([], 20, told[::-1], True)
            for index in range(5):
                self.check([], 20, told[:index] + told[index + 1:], False)
                self.check([], 20, told[:index] + [(wheel[index], ("of", 20, 1))] + told[index + 1:], False)
                self.check([], 20, told[:index] + [(wheel[index], ("of", 19, 0))] + told[index + 1:], False)
            self.check([], 20, [([a, no_b], ("of", 20, 0)), ([b, no_c], ("of", 20, 0)), ([c, no_a], ("of", 20, 0))], False)
            self.check([], 20, told[:3] + [([a, b], ("of", 20, 0)), told[4]], False)

    def test_wrong_for_lists_with_entries_in_two_stretches_alone(self):
        (a, no_a), (b, no_b), (c, no_c) = both_kinds((0, 4)), both_kinds((5, 9)), both_kinds((10, 20))
        conditions = [[c], [no_c, no_b, a], [no_c, no_b, no_a], [no_c, b, no_a], [no_c, b, a]]
        days = [20, 4, 0, 9, 9]
        right = [(one, ("of", day, 0)) for one, day in zip(conditions, days)]
        self.check([], 20, right, True)
        self.check([], 20, right[:4], False)
        for words in (("of", 8, 0), ("of", 4, 0), ("of", 9, 1), ("price", None)):
            self.check([], 20, right[:4] + [([no_c, b, a], words)], False)
        for words in (("of", 10, 0), ("of", 20, 0)):
            self.check([], 20, right[:4] + [([no_c, b, a], words)], True)
        for words in (("of", 4, 0), ("of", 0, 99999), ("price", None)):
            self.check([], 20, right[:2] + [([no_c, no_b, no_a], words)] + right[3:], True)
        # Only a list with an entry on day 9 and on day 4, and none behind, shows these.
        self.check([], 20, right[:4] + [([(9, 9, True), no_c, a], ("of", 9, 0)), ([no_c, (5, 8, True), a], ("of", 9, 0))], False)
        self.check([], 20, right[:4] + [([(10, 20, False), (5, 8, True), a], ("of", 9, 0))], False)
        self.check([], 20, right[:4] + [([(9, 9, True), (4, 4, True), no_c], ("of", 9, 0))], False)
        self.check([], 20, right[:4] + [([(5, 9, True), (0, 3, True), no_c], ("of", 9, 0))], False)

    def test_program_with_several_spans(self):
        deeds = [("repeat", 5, 10, 30), ("take", 10)]
        self.check(deeds, 20, [
            ([(11, 20, True)], ("of", 20, 0)), ([(11, 20, False), (21, 30, True)], ("of", 30, 0)),
            ([(11, 30, False)], ("of", 10, 0)),
        ], True)
        self.check(deeds, 20, [([(11, 20, True)], ("of", 20, 0)), ([(11, 20, False)], ("of", 30, 0))], True)
        self.check(deeds, 20, [([(11, 20, True)], ("of", 20, 0)), ([(11, 20, False)], ("of", 29, 0))], False)
        self.check(deeds, 20, [([], ("of", 30, 0))], False)

    def test_days_beyond_all_others(self):
        far = 10 ** 7
        has, none = both_kinds((far, far + 5))
        self.check(self.PUT, 10, [([has], ("price", 5)), ([none], ("price", 5))], True)
        self.check(self.PUT, 10, [([has], ("price", 5)), ([none], ("of", far, 0))], False)
        self.check([], far, [([(0, far, True)], ("of", far, 0)), ([(0, far, False)], ("price", None))], True)

    def test_negative_day(self):
        for told in ([], [([], ("of", 0, 0))], [([(3, 3, True), (3, 3, False)], ("price", 9))]):
            for day in (-1, -40):
                with self.assertRaises(InvalidDay) as caught:
                    judge(Program(self.PUT), day, told)
                self.assertEqual(caught.exception.value, day)
            judge(Program(self.PUT), 0, told)
        self.check(self.PUT, 0, [([], ("of", 0, 0))], True)
        self.check([("put", 0, 5)], 0, [([], ("price", 5))], True)


class JudgedAsTold(Judged):
    """Cases as they are told, and with something changed."""

    def some_asked(self, source, top, most):
        deeds = plain.some_deeds(source, top, most)
        return deeds, source.randint(0, top + 1)

    def test_told_split_left_out_and_doubled(self):
        source = random.Random(41)
        for _ in range(300):
            deeds, day = self.some_asked(source, source.choice((4, 10, 40)), 6)
            told = cases(Program(deeds), day)
            self.check(deeds, day, told, True)
            source.shuffle(told)
            self.check(deeds, day, told, True)
            at = source.randrange(len(told))
            conditions, words = told[at]
            one, other = both_kinds(sorted((source.randint(0, 41), source.randint(0, 41))))
            split = [(conditions + [one], words), ([other] + conditions, words)]
            self.check(deeds, day, told[:at] + split + told[at + 1:], True)
            self.check(deeds, day, split + told[:at] + told[at + 1:], True)
            self.check(deeds, day, told + [told[at]], False)
            self.check(deeds, day, told[:at] + told[at + 1:], False)

    def test_another_answer(self):
        source = random.Random(42)
        seen = {True: 0, False: 0}
        for _ in range(300):
            deeds, day = self.some_asked(source, 3, 3)
            told = cases(Program(deeds), day)
            at = source.randrange(len(told))
            conditions, words = told[at]
            if words[0] == "price":
                changed = source.choice((("price", 3), ("price", None), ("of", source.randint(0, 5), 0)))
            else:
                changed = ("of", source.randint(0, 5), source.choice((words[2], words[2], words[2] + 1)))
            seen[self.check_plain(deeds, day, told[:at] + [(conditions, changed)] + told[at + 1:])] += 1
        self.assertGreater(min(seen.values()), 30)

    def test_another_condition(self):
        source = random.Random(43)
        seen = {True: 0, False: 0}
        for _ in range(400):
            deeds, day = self.some_asked(source, 4, 3)
            told = cases(Program(deeds), day)
            at = source.randrange(len(told))
            conditions, words = told[at]
            if not conditions:
                continue
            changed = list(conditions)
            index = source.randrange(len(changed))
            first, last, has = changed[index]
            first, last = max(0, first + source.choice((-1, 0, 0, 1))), last + source.choice((-1, 0, 0, 1))
            if source.random() < 0.2:
                has = not has
            changed[index] = (min(first, last), max(first, last, 0), has)
            if changed[index][0] < 0:
                continue
            seen[self.check_plain(deeds, day, told[:at] + [(changed, words)] + told[at + 1:])] += 1
        self.assertGreater(seen[True], 15)
        self.assertGreater(seen[False], 100)

    def test_cases_made_from_a_line(self):
        source = random.Random(44)
        for _ in range(200):
            deeds, day = self.some_asked(source, source.choice((4, 12, 40)), 6)
            spans, price = line(Program(deeds), day)
            # Each span is told in parts, the later one ahead.
            told, passed = [], []
            for first, last, number in spans:
                cut = source.randint(first, last)
                parts = [(first, last)] if cut == first else [(cut, last), (first, cut - 1)]
                for part in parts:
                    told.append((passed + [(*part, True)], ("of", part[1], number)))
                    passed = passed + [(*part, False)]
            told.append((passed, ("price", price)))
            self.check(deeds, day, told, True)
            conditions, words = told[0]
            if words[0] == "of":
                self.check(deeds, day, [(conditions, ("of", words[1], words[2] + 1))] + told[1:], False)


class JudgedLikeAll(Judged):
    """Cases that look unlike those that `cases` tells, against the plain way."""

    TOP = 5

    def lists(self):
        return list(plain.lists_over([(day, day) for day in range(self.TOP + 1)]))

    def some_conditions(self, source):
        """Up to six lists of up to three conditions, of which just one fits each list."""
        leaves = [[]]
        for _ in range(source.randint(0, 5)):
            at = source.randrange(len(leaves))
            if len(leaves[at]) == 3:
                continue
            leaf = leaves.pop(at)
            span = sorted((source.randint(0, self.TOP), source.randint(0, self.TOP)))
            leaves += [leaf + [condition] for condition in both_kinds(span)]
        return leaves

    def answers(self, deeds, day, conditions, lists):
        """Answers for lists that fit, with for how many of them they are wrong."""
        fitting = [entries for entries in lists if plain.fits((conditions, None), entries)]
        right = [plain.force(plain.done(entries, deeds), day) for entries in fitting]
        spans, price = plain.line(deeds, day)
        numbers = sorted({0} | {number for _, _, number in spans})
        words = [("of", at, number) for at in range(self.TOP + 1) for number in numbers]
        words += [("price", one) for one in (price, None, 1)]
        return [
            (one, sum(plain.answer((conditions, one), entries) != told for entries, told in zip(fitting, right)))
            for one in words
        ]

    def test_right_and_nearly_right_cases(self):
        source = random.Random(45)
        lists = self.lists()
        seen = {True: 0, False: 0}
        for _ in range(900):
            deeds, day = plain.some_deeds(source, 4, 4), source.randint(2, 5)
            told, nearly = [], []
            for conditions in self.some_conditions(source):
                words = self.answers(deeds, day, conditions, lists)
                fewest = min(wrong for _, wrong in words)
                told.append((conditions, source.choice([one for one, wrong in words if wrong == fewest])))
                wrongs = [wrong for _, wrong in words if wrong > 0]
                if wrongs:
                    close = source.choice([one for one, wrong in words if wrong == min(wrongs)])
                    nearly.append((len(told) - 1, (conditions, close)))
            source.shuffle(told)
            seen[self.check_plain(deeds, day, told)] += 1
            source.shuffle(nearly)
            for at, case in nearly[:2]:
                changed = [one for one in told if one[0] is not case[0]] + [case]
                self.check_plain(deeds, day, changed)
        self.assertGreater(min(seen.values()), 100)

    def test_nearly_all_fitted_just_once(self):
        source = random.Random(46)
        seen = {True: 0, False: 0}
        for _ in range(1500):
            told = [(conditions, ("of", self.TOP, 0)) for conditions in self.some_conditions(source)]
            if source.random() < 0.5:
                at = source.randrange(len(told))
                conditions = list(told[at][0])
                if not conditions:
                    continue
                index = source.randrange(len(conditions))
                first, last, has = conditions[index]
                conditions[index] = source.choice((
                    (max(0, first - 1), last, has), (first, last + 1, has), (first, max(first, last - 1), has),
                    (min(first + 1, last), last, has), (first, last, not has),
                ))
                told[at] = (conditions, told[at][1])
            seen[self.check_plain([], self.TOP, told)] += 1
        self.assertGreater(min(seen.values()), 400)

    def test_any_cases(self):
        source = random.Random(47)
        for _ in range(2000):
            deeds, day = plain.some_deeds(source, 4, 3), source.randint(0, 5)
            told = []
            for _ in range(source.randint(1, 3)):
                conditions = [
                    (*sorted((source.randint(0, 4), source.randint(0, 4))), source.random() < 0.5)
                    for _ in range(source.randint(0, 2))
                ]
                told.append((conditions, source.choice((("price", None), ("of", day, 0)))))
            self.check_plain(deeds, day, told)

    def test_days_to_40(self):
        source = random.Random(48)
        seen = {True: 0, False: 0}
        for _ in range(400):
            deeds, day = plain.some_deeds(source, 40, 2), source.randint(0, 41)
            told = cases(Program(deeds), day)
            at = source.randrange(len(told))
            conditions, words = told[at]
            span = sorted((source.randint(0, 41), source.randint(0, 41)))
            parts = [(conditions + [condition], words) for condition in both_kinds(span)]
            if source.random() < 0.5 and words[0] == "of":
                parts[0] = (parts[0][0], ("of", source.randint(0, 41), words[2]))
            told = told[:at] + parts + told[at + 1:]
            if len(plain.stretches(deeds, day, told)) > 11:
                continue
            seen[self.check_plain(deeds, day, told)] += 1
        self.assertGreater(min(seen.values()), 30)


if __name__ == "__main__":
    unittest.main()
