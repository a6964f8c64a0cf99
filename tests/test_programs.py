"""Promises [2], [3], [5], [6] and inforce/programs.py."""

import itertools
import random
import unittest

from inforce.errors import InvalidDeed, PriceError, UnknownDeed
from inforce.lists import PriceList
from inforce.programs import Program
from tests import plain


def done(deeds, entries):
    return Program(deeds).done(PriceList(entries)).entries


class DeedsByHand(unittest.TestCase):
    def check(self, deed, entries, behind):
        self.assertEqual(done([deed], entries), behind)

    def test_put(self):
        self.check(("put", 0, 5), [], [(0, 5)])
        self.check(("put", 4, 5), [(3, 1), (5, 2)], [(3, 1), (4, 5), (5, 2)])
        self.check(("put", 4, 5), [(3, 1), (4, 9), (5, 2)], [(3, 1), (4, 5), (5, 2)])
        self.check(("put", 4, None), [(4, 9)], [(4, None)])
        self.check(("put", 4, None), [], [(4, None)])
        self.check(("put", 4, 1), [(3, 1)], [(3, 1), (4, 1)])

    def test_take(self):
        self.check(("take", 0), [], [])
        self.check(("take", 0), [(0, 1), (1, 2)], [(1, 2)])
        self.check(("take", 4), [(3, 1), (5, 2)], [(3, 1), (5, 2)])
        self.check(("take", 4), [(3, 1), (4, None), (5, 2)], [(3, 1), (5, 2)])

    def test_end(self):
        self.check(("end", 0), [], [])
        self.check(("end", 0), [(0, 1), (9, 2)], [])
        self.check(("end", 4), [(3, 1), (4, 2), (5, 3), (400, 4)], [(3, 1)])
        self.check(("end", 5), [(3, 1), (4, 2)], [(3, 1), (4, 2)])

    def test_cover(self):
        self.check(("cover", 2, 4, 9), [], [(2, 9), (4, None)])
        self.check(("cover", 0, 1, 9), [(0, 1), (1, 2)], [(0, 9), (1, 2)])
        self.check(("cover", 2, 4, 9), [(1, 1), (3, 2), (5, 3)], [(1, 1), (2, 9), (4, 2), (5, 3)])
        self.check(("cover", 2, 4, 9), [(2, 1), (4, 2)], [(2, 9), (4, 2)])
        self.check(("cover", 2, 4, None), [(2, 1)], [(2, None), (4, 1)])
        self.check(("cover", 2, 4, 9), [(1, 7), (4, None)], [(1, 7), (2, 9), (4, None)])

    def test_raise(self):
        self.check(("raise", 2, 4, 3), [], [(2, None), (4, None)])
        self.check(("raise", 2, 4, 3), [(1, 5)], [(1, 5), (2, 8), (4, 5)])
        self.check(("raise", 2, 4, 3), [(2, 5), (3, None), (4, 6)], [(2, 8), (3, None), (4, 6)])
        self.check(("raise", 2, 4, 3), [(0, 1), (3, 5)], [(0, 1), (2, 4), (3, 8), (4, 5)])
        self.check(("raise", 0, 2, -7), [(1, 5), (3, 2)], [(0, None), (1, -2), (2, 5), (3, 2)])
        self.check(("raise", 2, 4, 0), [(1, 5)], [(1, 5), (2, 5), (4, 5)])
        self.check(("raise", 2, 4, 1), [(1, 0), (3, -1)], [(1, 0), (2, 1), (3, 0), (4, -1)])

    def test_repeat(self):
        self.check(("repeat", 2, 4, 0), [], [(2, None), (4, None)])
        self.check(("repeat", 2, 4, 0), [(0, 5), (3, 6)], [(0, 5), (2, 5), (4, 6)])
        self.check(("repeat", 2, 4, 3), [(0, 5), (3, 6)], [(0, 5), (2, 6), (4, 6)])
        self.check(("repeat", 2, 4, 9), [(2, 1), (4, 3), (9, None)], [(2, None), (4, 3), (9, None)])
        self.check(("repeat", 2, 4, 4), [(4, 3)], [(2, 3), (4, 3)])
        self.check(("repeat", 2, 4, 2), [(1, 3), (3, 7)], [(1, 3), (2, 3), (4, 7)])

    def test_one_after_the_other(self):
        deeds = [("put", 3, 5), ("raise", 2, 6, 1), ("take", 3), ("repeat", 0, 2, 8), ("end", 6)]
        self.assertEqual(done(deeds, []), [(0, 5), (2, None)])
        self.assertEqual(done([], [(3, 1)]), [(3, 1)])


class DeedsThePlainWay(unittest.TestCase):
    def check(self, deeds, entries):
        behind = plain.done(dict(entries), deeds)
        self.assertEqual(done(deeds, entries), sorted(behind.items(), key=lambda entry: entry[0]), (deeds, entries))

    def test_each_deed_on_all_sets_of_entries(self):
        deeds = [(kind, day) for kind in ("take", "end") for day in range(5)]
        deeds += [("put", day, price) for day in range(5) for price in (7, None)]
        for first, behind in itertools.combinations(range(5), 2):
            deeds += [("cover", first, behind, 7), ("cover", first, behind, None), ("raise", first, behind, 3)]
            deeds += [("repeat", first, behind, day) for day in range(5)]
        for prices in itertools.product((False, None, 1), repeat=5):
            entries = [(day, price and price + day) for day, price in enumerate(prices) if price is not False]
            for deed in deeds:
                self.check([deed], entries)

    def test_programs_at_random(self):
        source = random.Random(11)
        for _ in range(1500):
            top = source.choice((3, 7, 40))
            self.check(plain.some_deeds(source, top, source.choice((2, 6, 30))), plain.some_entries(source, top, 60))

    def test_days_to_402(self):
        source = random.Random(12)
        for _ in range(60):
            entries = plain.some_entries(source, 402, 60)
            self.check(plain.some_deeds(source, 40, 30), entries)
            self.check(plain.some_deeds(source, 402, 30), entries)


class DeedErrors(unittest.TestCase):
    GOOD = [("put", 0, None), ("take", 0), ("end", 0), ("cover", 0, 1, 2), ("raise", 0, 1, 2), ("repeat", 0, 1, 0)]

    def assert_error(self, deeds, deed):
        with self.assertRaises(PriceError) as caught:
            Program(deeds)
        self.assertIs(type(caught.exception), InvalidDeed)
        self.assertIs(caught.exception.value, deed)

    def bad_deeds(self):
        bad = [(), ("",), ("", 1), ("PUT", 1, 2), ("puts", 1, 2), ("drop", 1), ("of", 1, 2), ("price", 1), ("Take", 3)]
        for deed in self.GOOD:
            bad += [deed[:size] for size in range(1, len(deed))]
            bad += [deed + (3,), deed + (None,), deed + (3, 4), (deed[0] + " ",) + deed[1:]]
        bad += [("put", -1, 5), ("take", -1), ("end", -1), ("take", -402)]
        for kind in ("cover", "raise", "repeat"):
            bad += [(kind, -1, 3, 5), (kind, -3, -1, 5), (kind, 1, -3, 5), (kind, 3, 3, 5), (kind, 4, 3, 5), (kind, 0, 0, 5)]
        bad += [("repeat", 1, 3, -1), ("repeat", 0, 1, -5)]
        return bad

    def test_good_deeds(self):
        self.assertEqual(Program(self.GOOD).deeds, self.GOOD)
        below = [("put", 1, -5), ("cover", 1, 2, -5), ("raise", 1, 2, -5), ("repeat", 1, 2, 0), ("repeat", 3, 4, 400)]
        self.assertEqual(Program(below).deeds, below)

    def test_each_bad_deed(self):
        for deed in self.bad_deeds():
            self.assert_error([deed], deed)
            self.assert_error(self.GOOD + [deed] + self.GOOD, deed)

    def test_the_first_one_is_told(self):
        bad = self.bad_deeds()
        for one, other in zip(bad, bad[1:] + bad[:1]):
            deeds = [("take", 3), one, ("end", 4), other]
            self.assert_error(deeds, one)
            self.assertEqual(deeds, [("take", 3), one, ("end", 4), other])


class Programs(unittest.TestCase):
    def test_deeds_are_new(self):
        deeds = [("take", 3), ("put", 4, None)]
        program = Program(deeds)
        deeds.append(("end", 1))
        deeds[0] = ("take", 9)
        self.assertEqual(program.deeds, [("take", 3), ("put", 4, None)])
        program.deeds.clear()
        program.days().clear()
        self.assertEqual([program.deeds, program.days(), len(program)], [[("take", 3), ("put", 4, None)], [3, 4], 2])
        self.assertIsNot(program.deeds, program.deeds)
        self.assertIsNot(program.days(), program.days())

    def test_done_leaves_all_as_it_was(self):
        program, prices = Program([("raise", 1, 5, 2), ("take", 3)]), PriceList([(3, 4)])
        first = program.done(prices)
        self.assertEqual(prices.entries, [(3, 4)])
        self.assertEqual(program.deeds, [("raise", 1, 5, 2), ("take", 3)])
        first.entries.clear()
        self.assertEqual(program.done(prices), first)
        self.assertEqual(first.entries, [(1, None), (5, 4)])
        self.assertIsInstance(first, PriceList)
        self.assertEqual(Program([]).done(prices), prices)

    def test_days(self):
        self.assertEqual(Program([]).days(), [])
        deeds = [("put", 9, 1), ("take", 2), ("end", 9), ("cover", 3, 20, 5), ("raise", 2, 4, 7), ("repeat", 0, 40, 30)]
        self.assertEqual(Program(deeds).days(), [0, 2, 3, 4, 9, 20, 30, 40])
        self.assertEqual(Program([("repeat", 5, 6, 1)]).days(), [1, 5, 6])
        source = random.Random(13)
        for _ in range(100):
            deeds = plain.some_deeds(source, 40, 30)
            self.assertEqual(Program(deeds).days(), plain.named_days(deeds))

    def test_without(self):
        deeds = [("put", 9, 1), ("take", 2), ("take", 2), ("end", 9)]
        program = Program(deeds)
        for index in range(4):
            self.assertEqual(program.without(index).deeds, deeds[:index] + deeds[index + 1:])
        self.assertEqual(program.deeds, deeds)
        self.assertEqual(Program([("take", 1)]).without(0), Program([]))

    def test_unknown_deed(self):
        for deeds in ([], [("take", 1)], [("put", 9, 1), ("take", 2), ("end", 9)]):
            program = Program(deeds)
            for index in (-len(deeds) - 1, -len(deeds), -1, len(deeds), len(deeds) + 1, 99):
                if 0 <= index < len(deeds):
                    continue
                with self.assertRaises(UnknownDeed) as caught:
                    program.without(index)
                self.assertEqual(caught.exception.value, index)
                self.assertEqual(program.deeds, deeds)

    def test_one_behind_the_other(self):
        one, other = Program([("put", 1, 5), ("take", 2)]), Program([("end", 1)])
        both = one + other
        self.assertIsInstance(both, Program)
        self.assertEqual(both.deeds, [("put", 1, 5), ("take", 2), ("end", 1)])
        self.assertEqual((other + one).deeds, [("end", 1), ("put", 1, 5), ("take", 2)])
        self.assertEqual([len(both), len(one), len(other), len(one + one)], [3, 2, 1, 4])
        self.assertEqual([one + Program([]), Program([]) + one], [one, one])
        prices = PriceList([(0, 3), (1, 4)])
        self.assertEqual(both.done(prices), other.done(one.done(prices)))
        both.deeds.clear()
        self.assertEqual([one.deeds, other.deeds], [[("put", 1, 5), ("take", 2)], [("end", 1)]])

    def test_equality(self):
        program = Program([("put", 1, 5), ("take", 2)])
        self.assertTrue(program == program)
        self.assertTrue(program == Program([("put", 1, 5), ("take", 2)]))
        self.assertFalse(program != Program([("put", 1, 5), ("take", 2)]))
        for deeds in ([], [("put", 1, 5)], [("take", 2), ("put", 1, 5)], [("put", 1, None), ("take", 2)],
                      [("put", 1, 5), ("end", 2)], [("put", 1, 5), ("take", 2), ("take", 2)]):
            self.assertFalse(program == Program(deeds))
            self.assertTrue(program != Program(deeds))

    def test_not_equal_to_anything_else(self):
        for program in (Program([]), Program([("take", 2)])):
            for other in (None, 0, False, "", [], program.deeds, tuple(program.deeds), {}, PriceList([]), object()):
                self.assertFalse(program == other)
                self.assertFalse(other == program)
                self.assertTrue(program != other)
                self.assertTrue(other != program)

    def test_by_name(self):
        program = Program(deeds=[("put", 1, 5)])
        self.assertEqual(program.done(prices=PriceList([])).entries, [(1, 5)])
        self.assertEqual(program.without(index=0), Program([]))

    def test_defined_in_the_class(self):
        for name in ("deeds", "done", "days", "without", "__add__", "__len__", "__eq__"):
            self.assertIn(name, vars(Program))
        self.assertIsInstance(vars(Program)["deeds"], property)
        self.assertEqual(Program.__module__, "inforce.programs")


if __name__ == "__main__":
    unittest.main()
