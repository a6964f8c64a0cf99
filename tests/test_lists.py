"""Promises [2] to [4] and inforce/lists.py."""

import random
import unittest

from inforce.errors import DoubleDay, InvalidDay, PriceError
from inforce.lists import PriceList
from tests import plain


def lists_at_random(seed, many):
    source = random.Random(seed)
    for number in range(many):
        top = source.choice((3, 8, 40, 402))
        entries = plain.some_entries(source, top, source.choice((3, 10, 60)))
        yield entries, top


class Entries(unittest.TestCase):
    def test_ascending_from_any_order(self):
        for entries, _ in lists_at_random(1, 200):
            self.assertEqual(PriceList(entries).entries, sorted(entries, key=lambda entry: entry[0]))
            self.assertEqual(len(PriceList(entries)), len(entries))

    def test_kept_though_they_tell_nothing_new(self):
        entries = [(0, None), (3, 5), (4, 5), (7, None), (9, None)]
        self.assertEqual(PriceList(entries[::-1]).entries, entries)
        self.assertEqual(len(PriceList(entries)), 5)

    def test_empty_list(self):
        prices = PriceList([])
        self.assertEqual([prices.entries, len(prices), prices[0], prices[402], prices.changes()], [[], 0, None, None, []])

    def test_what_is_told_is_new(self):
        entries = [(4, 1), (2, 3)]
        prices = PriceList(entries)
        entries.append((9, 9))
        entries[0] = (5, 5)
        self.assertEqual(prices.entries, [(2, 3), (4, 1)])
        prices.entries.append((9, 9))
        prices.changes().clear()
        self.assertEqual([prices.entries, prices.changes()], [[(2, 3), (4, 1)], [(2, 3), (4, 1)]])
        self.assertIsNot(prices.entries, prices.entries)
        self.assertIsNot(prices.changes(), prices.changes())

    def test_arguments_stay(self):
        entries = [(4, 1), (2, 3)]
        PriceList(entries)
        self.assertEqual(entries, [(4, 1), (2, 3)])

    def test_by_name(self):
        prices = PriceList(entries=[(2, 3)])
        self.assertEqual(prices.entries, [(2, 3)])
        self.assertIs(prices.alike(other=PriceList([])), False)
        self.assertEqual(prices.first_unlike(other=PriceList([])), 2)

    def test_defined_in_the_class(self):
        for name in ("entries", "changes", "alike", "first_unlike", "__getitem__", "__len__", "__eq__"):
            self.assertIn(name, vars(PriceList))
        self.assertIsInstance(vars(PriceList)["entries"], property)
        self.assertEqual(PriceList.__module__, "inforce.lists")

    def test_not_iterated(self):
        with self.assertRaises(TypeError):
            iter(PriceList([(1, 2)]))


class EntryErrors(unittest.TestCase):
    def assert_error(self, kind, value, entries):
        with self.assertRaises(PriceError) as caught:
            PriceList(entries)
        self.assertIs(type(caught.exception), kind)
        self.assertEqual(caught.exception.value, value)

    def test_negative_day(self):
        self.assert_error(InvalidDay, -1, [(-1, 5)])
        self.assert_error(InvalidDay, -3, [(0, 1), (-3, None), (-1, 5)])

    def test_day_that_stood_before(self):
        self.assert_error(DoubleDay, 0, [(0, 5), (0, 5)])
        self.assert_error(DoubleDay, 7, [(7, 5), (2, 1), (7, None), (2, 3)])

    def test_each_entry_in_order(self):
        self.assert_error(DoubleDay, 2, [(2, 1), (2, 1), (-1, 1)])
        self.assert_error(InvalidDay, -1, [(2, 1), (-1, 1), (2, 1)])
        self.assert_error(InvalidDay, -4, [(5, 1), (-4, 1), (-4, 1)])
        self.assert_error(DoubleDay, 9, [(9, 1), (3, 1), (4, 1), (9, 2), (3, 1), (-1, 1)])

    def test_day_0_is_a_day(self):
        self.assertEqual(PriceList([(0, 5)])[0], 5)

    def test_arguments_stay(self):
        entries = [(7, 1), (3, 2), (7, 1)]
        self.assert_error(DoubleDay, 7, entries)
        self.assertEqual(entries, [(7, 1), (3, 2), (7, 1)])


class InForce(unittest.TestCase):
    def test_on_ahead_of_and_behind_entries(self):
        prices = PriceList([(3, 5), (6, None), (9, -2)])
        self.assertEqual(
            [prices[day] for day in (0, 2, 3, 4, 5, 6, 7, 8, 9, 10, 402, 10 ** 9)],
            [None, None, 5, 5, 5, None, None, None, -2, -2, -2, -2],
        )

    def test_as_the_plain_way(self):
        for entries, top in lists_at_random(2, 100):
            prices = PriceList(entries)
            told = dict(entries)
            for day in range(top + 3):
                self.assertEqual(prices[day], plain.force(told, day))

    def test_negative_day(self):
        for entries in ([], [(0, 5)]):
            for day in (-1, -2, -402):
                with self.assertRaises(InvalidDay) as caught:
                    PriceList(entries)[day]
                self.assertEqual(caught.exception.value, day)

    def test_changes(self):
        self.assertEqual(PriceList([(0, None), (1, None)]).changes(), [])
        self.assertEqual(PriceList([(0, 0), (1, 0), (2, None), (4, None), (5, 0)]).changes(), [(0, 0), (2, None), (5, 0)])

    def test_changes_as_the_plain_way(self):
        for entries, top in lists_at_random(3, 100):
            told = dict(entries)
            expected = [
                (day, plain.force(told, day)) for day in range(top + 3)
                if plain.force(told, day) != plain.force(told, day - 1)
            ]
            self.assertEqual(PriceList(entries).changes(), expected)


class Alike(unittest.TestCase):
    def check(self, one, other, top):
        one_list, other_list = PriceList(one), PriceList(other)
        one, other = dict(one), dict(other)
        unlike = [day for day in range(top + 3) if plain.force(one, day) != plain.force(other, day)]
        for pair in ((one_list, other_list), (other_list, one_list)):
            self.assertEqual(pair[0].first_unlike(pair[1]), unlike[0] if unlike else None)
            self.assertIs(pair[0].alike(pair[1]), not unlike)

    def test_by_hand(self):
        self.check([(0, 5)], [(0, 5), (4, 5)], 5)
        self.check([(0, 5)], [(0, 6)], 5)
        self.check([], [(4, None)], 5)
        self.check([(4, 5), (7, None)], [(4, 5)], 8)
        self.check([(4, 5), (7, 1)], [(3, 5), (7, 1)], 8)
        self.check([(4, 0)], [(4, None)], 8)
        self.check([(402, 1)], [], 402)

    def test_as_the_plain_way(self):
        source = random.Random(4)
        for entries, top in lists_at_random(5, 150):
            self.check(entries, plain.some_entries(source, top, 5), top)
            # Lists that differ in one entry, or only in one that tells nothing new.
            changed = dict(entries)
            changed[source.randint(0, top)] = plain.some_price(source)
            self.check(entries, list(changed.items()), top)
            idle = dict(entries)
            day = source.randint(0, top)
            idle[day] = plain.force(idle, day)
            self.check(entries, list(idle.items()), top)

    def test_with_itself(self):
        for entries, _ in lists_at_random(6, 30):
            prices = PriceList(entries)
            self.assertIs(prices.alike(prices), True)
            self.assertIsNone(prices.first_unlike(prices))


class Equality(unittest.TestCase):
    def test_entries_decide(self):
        prices = PriceList([(1, 2), (3, 4)])
        self.assertTrue(prices == prices)
        self.assertTrue(prices == PriceList([(3, 4), (1, 2)]))
        self.assertFalse(prices != PriceList([(3, 4), (1, 2)]))
        for entries in ([], [(1, 2)], [(1, 2), (3, 5)], [(1, 2), (4, 4)], [(1, 2), (3, 4), (5, 4)], [(1, 2), (3, None)]):
            self.assertFalse(prices == PriceList(entries))
            self.assertTrue(prices != PriceList(entries))

    def test_alike_lists_may_be_unequal(self):
        self.assertTrue(PriceList([(3, None)]) != PriceList([]))

    def test_not_equal_to_anything_else(self):
        for prices in (PriceList([]), PriceList([(1, 2)])):
            for other in (None, 0, False, "", [], prices.entries, tuple(prices.entries), {}, {1: 2}, object()):
                self.assertFalse(prices == other)
                self.assertFalse(other == prices)
                self.assertTrue(prices != other)
                self.assertTrue(other != prices)

    def test_nothing_asked_changes_a_list(self):
        prices, other = PriceList([(1, 2), (3, None)]), PriceList([(0, 1)])
        prices.changes(), prices.alike(other), prices.first_unlike(other), prices[3], len(prices), prices == other
        with self.assertRaises(InvalidDay):
            prices[-1]
        self.assertEqual([prices.entries, other.entries], [[(1, 2), (3, None)], [(0, 1)]])


if __name__ == "__main__":
    unittest.main()
