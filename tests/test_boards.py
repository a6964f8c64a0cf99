"""Promises [2], [3], [5], [6] and inforce/boards.py: boards."""

import inspect
import random
import unittest

from inforce.boards import Board, CalmBoard
from inforce.errors import InvalidDeed, LateDeed, NothingToUndo, PriceError, UnknownDeed
from inforce.lists import PriceList
from inforce.programs import Program
from tests import plain

WRONG_DEEDS = [
    (), ("",), ("buy", 3), ("Put", 3, 5), ("put",), ("put", 3), ("put", 3, 5, 6), ("take", 3, 4), ("end",),
    ("cover", 2, 4), ("cover", 4, 4, 1), ("cover", 4, 2, 1), ("raise", 0, 0, 1), ("raise", 5, 6, 1, 1),
    ("repeat", 3, 4), ("repeat", 7, 4, 2), ("put", -1, 5), ("take", -1), ("end", -402), ("cover", -1, 4, 1),
    ("raise", -2, -1, 1), ("repeat", 2, 4, -1), ("repeat", -1, 4, 2),
]


class PlainBoard:
    """A second, plain board, which does all deeds anew."""

    def __init__(self, entries):
        self.entries = dict(entries)
        self.deeds = []
        self.past = []

    def now(self):
        return plain.done(self.entries, self.deeds)

    def change(self, deeds):
        top = max(list(self.entries) + plain.named_days(self.deeds + deeds)) + 1
        before = plain.shown(self.now(), top)
        self.past.append(self.deeds)
        self.deeds = deeds
        after = plain.shown(self.now(), top)
        return [day for day in range(top + 1) if before[day] != after[day]]

    def late(self, deed, index):
        return self.change(self.deeds[:index] + [deed] + self.deeds[index:])

    def drop(self, index):
        return self.change(self.deeds[:index] + self.deeds[index + 1:])

    def undo(self):
        self.deeds = self.past.pop()


class BoardChecks(unittest.TestCase):
    kinds = (Board, CalmBoard)

    def assert_error(self, kind, value, call, *things):
        with self.assertRaises(PriceError) as caught:
            call(*things)
        self.assertIs(type(caught.exception), kind)
        self.assertEqual(caught.exception.value, value)

    def assert_same(self, board, second):
        expected = sorted(second.now().items(), key=lambda entry: entry[0])
        self.assertEqual(board.prices.entries, expected)
        self.assertEqual(board.program.deeds, second.deeds)
        self.assertEqual(len(board), len(second.deeds))

    def assert_days(self, told, expected):
        self.assertIs(type(told), list)
        self.assertEqual(told, expected)


class ByHand(BoardChecks):
    def test_at_the_beginning(self):
        for kind in self.kinds:
            prices = PriceList([(3, 5), (1, None)])
            board = kind(prices)
            self.assertEqual([board.prices, board.program, len(board)], [prices, Program([]), 0])
            self.assertIsInstance(board.prices, PriceList)
            self.assertIsInstance(board.program, Program)

    def test_calls(self):
        for kind in self.kinds:
            board = kind(PriceList([(2, 5)]))
            self.assert_days(board(("put", 4, 6)), [4, 5])
            self.assert_days(board(("put", 4, 6)), [])
            self.assert_days(board(("cover", 3, 5, 7)), [3, 4])
            self.assert_days(board(("raise", 0, 3, 1)), [2])
            self.assert_days(board(("take", 9)), [])
            self.assert_days(board(("end", 5)), [5, 6, 7, 8, 9, 10])
            self.assertEqual(board.prices.entries, [(0, None), (2, 6), (3, 7)])
            self.assertEqual(len(board), 6)

    def test_days_up_to_one_behind_all_days(self):
        for kind in self.kinds:
            self.assert_days(kind(PriceList([]))(("put", 0, 5)), [0, 1])
            self.assert_days(kind(PriceList([]))(("put", 40, 5)), [40, 41])
            # The days of the list at the beginning count, also when its entries are gone.
            self.assert_days(kind(PriceList([(7, 1)]))(("put", 0, 5)), [0, 1, 2, 3, 4, 5, 6])
            board = kind(PriceList([(7, None)]))
            self.assert_days(board(("put", 5, 5)), [5, 6])
            self.assert_days(board(("end", 6)), [7, 8])
            self.assert_days(board(("put", 0, 4)), [0, 1, 2, 3, 4])
            self.assert_days(board(("end", 0)), [0, 1, 2, 3, 4, 5, 6, 7, 8])
            # Those of each kind of deed count, that of a repeat, too.
            for deed, last in [(("take", 9), 10), (("end", 9), 10), (("put", 9, None), 10), (("cover", 8, 9, None), 10),
                               (("raise", 5, 12, 3), 13), (("repeat", 5, 6, 20), 21), (("repeat", 5, 12, 3), 13)]:
                board = kind(PriceList([]))
                self.assert_days(board(deed), [])
                self.assert_days(board(("end", 0)), [])
                self.assert_days(board(("put", 0, 1)), list(range(last + 1)))

    def test_late(self):
        board = Board(PriceList([]))
        self.assert_days(board.late(("put", 3, 5), 0), [3, 4])
        self.assert_days(board.late(("put", 3, 6), 0), [])
        self.assert_days(board.late(("put", 3, 7), 2), [3, 4])
        self.assert_days(board.late(("take", 3), 1), [])
        self.assert_days(board.late(("raise", 2, 5, 1), 4), [3, 4])
        self.assertEqual(board.program.deeds, [("put", 3, 6), ("take", 3), ("put", 3, 5), ("put", 3, 7), ("raise", 2, 5, 1)])
        self.assertEqual(board.prices.entries, [(2, None), (3, 8), (5, 7)])

    def test_drop(self):
        for kind in self.kinds:
            board = kind(PriceList([(1, 9)]))
            board(("put", 3, 5)), board(("cover", 2, 6, 4)), board(("put", 4, 8))
            self.assert_days(board.drop(1), [2, 3, 6, 7])
            self.assertEqual(board.program.deeds, [("put", 3, 5), ("put", 4, 8)])
            self.assert_days(board.drop(1), [4, 5])
            self.assert_days(board.drop(0), [3, 4])
            self.assertEqual([len(board), board.prices], [0, PriceList([(1, 9)])])

    def test_days_of_a_dropped_deed_count(self):
        for kind in self.kinds:
            board = kind(PriceList([(1, 9)]))
            board(("put", 20, 5))
            self.assert_days(board.drop(0), [20, 21])
            board(("repeat", 3, 5, 30))
            board(("end", 1))
            self.assert_days(board.drop(1), list(range(1, 32)))
            self.assert_days(board.drop(0), [])
            # They do not count any more behind the drop.
            self.assert_days(board(("put", 2, 3)), [2, 3])

    def test_undo_of_each_kind_of_call(self):
        for kind in self.kinds:
            board = kind(PriceList([(1, 9)]))
            board(("put", 3, 5))
            board.late(("put", 4, 6), 1)
            board.drop(0)
            self.assertEqual(board.program.deeds, [("put", 4, 6)])
            self.assertIsNone(board.undo())
            self.assertEqual(board.program.deeds, [("put", 3, 5), ("put", 4, 6)])
            self.assertEqual(board.prices.entries, [(1, 9), (3, 5), (4, 6)])
            self.assertIsNone(board.undo())
            self.assertEqual(board.program.deeds, [("put", 3, 5)])
            self.assertEqual(board.prices.entries, [(1, 9), (3, 5)])
            self.assertIsNone(board.undo())
            self.assertEqual([len(board), board.prices.entries], [0, [(1, 9)]])
            for _ in range(2):
                self.assert_error(NothingToUndo, 0, board.undo)
                self.assertEqual([len(board), board.prices.entries], [0, [(1, 9)]])

    def test_undo_takes_back_what_changed_nothing(self):
        for kind in self.kinds:
            board = kind(PriceList([]))
            board(("put", 3, 5)), board(("put", 3, 5)), board(("take", 9))
            board.undo()
            self.assertEqual(len(board), 2)
            board.undo()
            self.assertEqual([len(board), board.prices.entries], [1, [(3, 5)]])

    def test_undo_is_not_taken_back(self):
        for kind in self.kinds:
            board = kind(PriceList([]))
            board(("put", 3, 5)), board(("put", 4, 6))
            board.undo()
            board(("put", 5, 7))
            board.undo()
            self.assertEqual(board.program.deeds, [("put", 3, 5)])
            board.undo()
            self.assert_error(NothingToUndo, 0, board.undo)

    def test_nothing_to_undo(self):
        for kind in self.kinds:
            self.assert_error(NothingToUndo, 0, kind(PriceList([])).undo)
            self.assert_error(NothingToUndo, 0, kind(PriceList([(1, 2)])).undo)

    def test_late_behind_all_is_a_call(self):
        source = random.Random(91)
        for kind in self.kinds:
            one, other = kind(PriceList([(2, 3)])), kind(PriceList([(2, 3)]))
            for _ in range(20):
                deed = plain.some_deed(source, 9)
                self.assertEqual(one(deed), other.late(deed, len(other)))
            self.assertTrue(one == other)


class ThePlainWay(BoardChecks):
    def run_calls(self, board, second, source, top, many):
        for _ in range(many):
            word = source.choice(("call", "call", "late", "late", "drop", "undo", "ask", "wrong"))
            deed = plain.some_deed(source, top)
            index = source.randint(0, len(second.deeds))
            if word in ("call", "late") and len(second.deeds) >= 40:
                word = "drop"
            if word == "call":
                self.assert_days(board(deed), second.change(second.deeds + [deed]))
            elif word == "late":
                self.assert_days(board.late(deed, index), second.late(deed, index))
            elif word == "drop" and index < len(second.deeds):
                self.assert_days(board.drop(index), second.drop(index))
            elif word == "undo" and second.past:
                second.undo()
                self.assertIsNone(board.undo())
            elif word == "undo":
                self.assert_error(NothingToUndo, 0, board.undo)
            elif word == "wrong":
                self.go_wrong(board, source, deed, len(second.deeds))
            self.assert_same(board, second)

    def go_wrong(self, board, source, deed, many):
        wrong = source.choice(WRONG_DEEDS)
        beyond = source.choice((-1, -many - 1, many + 1, many + 9))
        self.assert_error(InvalidDeed, wrong, board, wrong)
        self.assert_error(InvalidDeed, wrong, board.late, wrong, source.choice((0, beyond)))
        self.assert_error(UnknownDeed, beyond, board.late, deed, beyond)
        self.assert_error(UnknownDeed, beyond, board.drop, beyond)
        self.assert_error(UnknownDeed, many, board.drop, many)

    def run_boards(self, seed, top, boards, many):
        source = random.Random(seed)
        for _ in range(boards):
            entries = plain.some_entries(source, top, 60)
            board, second = Board(PriceList(entries)), PlainBoard(dict(entries))
            self.run_calls(board, second, source, top, many)
            while second.past:
                second.undo()
                board.undo()
                self.assert_same(board, second)
            self.assert_error(NothingToUndo, 0, board.undo)
            self.assertTrue(board == Board(PriceList(entries)))

    def test_few_days(self):
        self.run_boards(92, 5, 40, 60)

    def test_days_to_40(self):
        self.run_boards(93, 40, 12, 60)

    def test_200_calls(self):
        self.run_boards(94, 40, 3, 200)

    def test_40_deeds(self):
        source = random.Random(95)
        for kind in self.kinds:
            entries = plain.some_entries(source, 40, 41)
            board, second = kind(PriceList(entries)), PlainBoard(dict(entries))
            for _ in range(40):
                deed = plain.some_deed(source, 40)
                self.assert_days(board(deed), second.change(second.deeds + [deed]))
                self.assert_same(board, second)
            for _ in range(40):
                index = source.randrange(len(board))
                self.assert_days(board.drop(index), second.drop(index))
                self.assert_same(board, second)
            for _ in range(80):
                self.assertIsNone(board.undo())
            self.assert_error(NothingToUndo, 0, board.undo)


class Errors(BoardChecks):
    def boards(self):
        for kind in self.kinds:
            for many in (0, 1, 3):
                board = kind(PriceList([(3, 4)]))
                for deed in [("put", 1, 5), ("raise", 2, 9, 1), ("take", 3)][:many]:
                    board(deed)
                yield board, many

    def assert_unchanged(self, board, many):
        deeds = [("put", 1, 5), ("raise", 2, 9, 1), ("take", 3)][:many]
        entries = plain.done({3: 4}, deeds)
        self.assertEqual(board.prices.entries, sorted(entries.items()))
        self.assertEqual([board.program.deeds, len(board)], [deeds, many])
        if many == 0:
            self.assert_error(NothingToUndo, 0, board.undo)
        else:
            board.undo()
            self.assertEqual(board.program.deeds, deeds[:-1])
            board(deeds[-1])

    def test_invalid_deed(self):
        for board, many in self.boards():
            for deed in WRONG_DEEDS:
                self.assert_error(InvalidDeed, deed, board, deed)
                for index in (0, many, -1, many + 1):
                    self.assert_error(InvalidDeed, deed, board.late, deed, index)
                with self.assertRaises(InvalidDeed) as caught:
                    board(deed)
                self.assertIs(type(caught.exception.value), tuple)
                self.assert_unchanged(board, many)

    def test_unknown_deed(self):
        for board, many in self.boards():
            for index in (-1, -2, -many - 1, -99, many + 1, many + 2, 99):
                self.assert_error(UnknownDeed, index, board.late, ("put", 0, 1), index)
                self.assert_error(UnknownDeed, index, board.drop, index)
                self.assert_unchanged(board, many)
            self.assert_error(UnknownDeed, many, board.drop, many)
            self.assert_unchanged(board, many)

    def test_each_index_that_there_is(self):
        for board, many in self.boards():
            for index in range(many + 1):
                self.assertEqual(board.late(("take", 30), index), [])
                self.assertEqual(board.program.deeds[index], ("take", 30))
                self.assertEqual(board.drop(index), [])
                self.assert_unchanged_twice(board, many)

    def assert_unchanged_twice(self, board, many):
        board.undo()
        self.assertEqual(len(board), many + 1)
        board.undo()
        self.assert_unchanged(board, many)


class Equality(BoardChecks):
    def assert_equal(self, one, other, expected):
        for left, right in ((one, other), (other, one)):
            self.assertIs(left == right, expected)
            self.assertIs(left != right, not expected)

    def board(self, kind, entries, deeds):
        board = kind(PriceList(entries))
        for deed in deeds:
            board(deed)
        return board

    def test_list_and_deeds_decide(self):
        entries, deeds = [(2, 5), (4, None)], [("put", 4, 6), ("take", 9)]
        for kind in self.kinds:
            board = self.board(kind, entries, deeds)
            self.assert_equal(board, board, True)
            self.assert_equal(board, self.board(kind, entries[::-1], deeds), True)
            for others in ([], [(2, 5)], [(2, 5), (4, 0)], [(2, 5), (5, None)], entries + [(9, 9)]):
                self.assert_equal(board, self.board(kind, others, deeds), False)
            for others in ([], deeds[:1], deeds[::-1], deeds + deeds[1:], [("put", 4, 7), ("take", 9)]):
                self.assert_equal(board, self.board(kind, entries, others), False)

    def test_same_prices_by_other_ways_are_not_equal(self):
        for kind in self.kinds:
            self.assert_equal(self.board(kind, [(3, 5)], []), self.board(kind, [], [("put", 3, 5)]), False)
            self.assert_equal(self.board(kind, [], [("take", 3)]), self.board(kind, [], [("take", 4)]), False)
            # Lists that are alike but not equal.
            self.assert_equal(self.board(kind, [(3, None)], []), self.board(kind, [], []), False)

    def test_by_whatever_way(self):
        for kind in self.kinds:
            one = self.board(kind, [(2, 5)], [("put", 4, 6), ("take", 9)])
            late = self.board(kind, [(2, 5)], [("take", 9)])
            self.assert_equal(one, late, False)
            late.late(("put", 4, 6), 0)
            self.assert_equal(one, late, True)
            dropped = self.board(kind, [(2, 5)], [("put", 4, 6), ("end", 3), ("take", 9)])
            dropped.drop(1)
            self.assert_equal(one, dropped, True)
            self.assert_equal(late, dropped, True)
            undone = self.board(kind, [(2, 5)], [("put", 4, 6), ("take", 9), ("put", 4, 8)])
            undone.undo()
            self.assert_equal(one, undone, True)
            one(("end", 0))
            self.assert_equal(one, undone, False)
            one.undo(), one.undo(), one.undo()
            self.assert_equal(one, kind(PriceList([(2, 5)])), True)

    def test_calm_and_not_calm(self):
        for entries, deeds in (([], []), ([(2, 5)], []), ([(2, 5)], [("put", 4, 6)])):
            self.assert_equal(self.board(Board, entries, deeds), self.board(CalmBoard, entries, deeds), False)

    def test_not_equal_to_anything_else(self):
        for kind in self.kinds:
            for board in (kind(PriceList([])), self.board(kind, [(2, 5)], [("put", 4, 6)])):
                for other in (None, 0, False, "", [], (), {}, object(), board.prices, board.program, board.program.deeds,
                              PriceList([(2, 5)]), Program([]), kind, NotImplemented):
                    self.assert_equal(board, other, False)


class WhatIsTold(BoardChecks):
    def test_lists_and_programs_stay_as_they_were(self):
        for kind in self.kinds:
            board = kind(PriceList([(2, 5)]))
            told = []
            for deed in [("put", 4, 6), ("end", 9), ("raise", 1, 8, 2)]:
                board(deed)
                told.append((board.prices, board.program, board.prices.entries, board.program.deeds))
            board.late(("take", 30), 0), board.drop(2), board.undo(), board.undo(), board.undo()
            for prices, program, entries, deeds in told:
                self.assertEqual(prices.entries, entries)
                self.assertEqual(program.deeds, deeds)
                self.assertEqual(program.done(PriceList([(2, 5)])), prices)

    def test_returned_lists_are_new(self):
        for kind in self.kinds:
            board, other = kind(PriceList([(2, 5)])), kind(PriceList([(2, 5)]))
            for call in (lambda it: it(("put", 4, 6)), lambda it: it.late(("put", 1, 3), 0), lambda it: it.drop(0)):
                told = call(board)
                told.append(99)
                self.assertEqual(told[:-1], call(other))
                board.prices.entries.clear(), board.program.deeds.clear(), board.program.days().clear()
                self.assertEqual([board.prices, board.program], [other.prices, other.program])
            self.assertEqual(board.prices.entries, [(2, 5), (4, 6)])

    def test_arguments_stay(self):
        for kind in self.kinds:
            prices = PriceList([(2, 5)])
            board = kind(prices)
            board(("put", 4, 6)), board.late(("end", 9), 0)
            self.assertEqual(prices.entries, [(2, 5)])

    def test_two_boards_of_one_list(self):
        for kind in self.kinds:
            prices = PriceList([(2, 5)])
            one, other = kind(prices), kind(prices)
            one(("put", 4, 6))
            self.assertEqual([len(other), other.prices.entries], [0, [(2, 5)]])
            self.assert_error(NothingToUndo, 0, other.undo)

    def test_by_position_and_by_name(self):
        for kind in self.kinds:
            board = kind(prices=PriceList([(2, 5)]))
            self.assertEqual(board(deed=("put", 4, 6)), [4, 5])
            self.assertEqual(board.late(deed=("put", 3, 1), index=0), [3])
            self.assertEqual(board.late(index=2, deed=("take", 3)), [3])
            self.assertEqual(board.late(("take", 9), index=3), [])
            self.assertEqual(board.drop(index=2), [3])

    def test_names_of_arguments(self):
        for kind in self.kinds:
            self.assertEqual(list(inspect.signature(kind).parameters), ["prices"])
            self.assertEqual(list(inspect.signature(kind.late).parameters)[1:], ["deed", "index"])
        self.assertEqual(list(inspect.signature(Board.__call__).parameters)[1:], ["deed"])
        self.assertEqual(list(inspect.signature(Board.drop).parameters)[1:], ["index"])
        self.assertEqual(list(inspect.signature(Board.undo).parameters)[1:], [])

    def test_defined_in_the_class(self):
        for name in ("__init__", "__call__", "late", "drop", "prices", "program", "undo", "__len__", "__eq__"):
            self.assertIn(name, vars(Board))
        for name in ("__init__", "late", "__eq__"):
            self.assertIn(name, vars(CalmBoard))
        for name in ("prices", "program"):
            self.assertIsInstance(vars(Board)[name], property)
        for kind in self.kinds:
            self.assertEqual(kind.__module__, "inforce.boards")


class CalmBoards(BoardChecks):
    def calm(self, deeds, entries=()):
        board = CalmBoard(PriceList(list(entries)))
        for deed in deeds:
            board(deed)
        return board

    def check_late(self, board, deed, index, days):
        """Days are None if the deed comes too late."""
        deeds, prices = board.program.deeds, board.prices
        if days is None:
            self.assert_error(LateDeed, index, board.late, deed, index)
            self.assertEqual([board.program.deeds, board.prices], [deeds, prices])
            return
        self.assert_days(board.late(deed, index), days)
        self.assertEqual(board.program.deeds, deeds[:index] + [deed] + deeds[index:])

    def test_subclass(self):
        self.assertTrue(issubclass(CalmBoard, Board))
        self.assertEqual(CalmBoard.__bases__, (Board,))
        self.assertIsInstance(CalmBoard(PriceList([])), Board)
        self.assertNotIsInstance(Board(PriceList([])), CalmBoard)

    def test_by_hand(self):
        self.check_late(self.calm([("put", 4, 6)]), ("put", 2, 5), 0, [2, 3])
        self.check_late(self.calm([("put", 4, 6)]), ("put", 4, 5), 0, None)
        self.check_late(self.calm([("put", 4, 6)]), ("put", 4, 5), 1, [4, 5])
        self.check_late(self.calm([("put", 4, 6)]), ("put", 4, 6), 0, [])
        self.check_late(self.calm([("put", 4, 6)]), ("take", 4), 0, None)
        self.check_late(self.calm([("end", 3)]), ("put", 4, 5), 0, None)
        self.check_late(self.calm([("end", 3)]), ("put", 2, 5), 0, [2, 3, 4])
        self.check_late(self.calm([("end", 3)]), ("end", 1), 0, [])
        self.check_late(self.calm([("raise", 3, 8, 1)]), ("raise", 5, 9, 2), 0, [])
        self.check_late(self.calm([("raise", 3, 8, 1)]), ("put", 5, 2), 0, None)
        self.check_late(self.calm([("raise", 3, 8, 1)]), ("put", 8, 2), 0, [8, 9])
        self.check_late(self.calm([("repeat", 3, 8, 20)]), ("put", 20, 2), 0, None)
        self.check_late(self.calm([("repeat", 3, 8, 20)]), ("put", 21, 2), 0, [21, 22])

    def test_index_of_each_place(self):
        deeds = [("put", 4, 6), ("take", 4), ("raise", 10, 12, 1)]
        for index in range(3):
            self.check_late(self.calm(deeds), ("put", 4, 2), index, None)
            self.check_late(self.calm(deeds), ("put", 13, 2), index, [13, 14])
        # On days 10 and 12 the raise has put entries by which nothing is in force.
        self.check_late(self.calm(deeds), ("put", 4, 2), 3, [4, 5, 6, 7, 8, 9])
        self.check_late(self.calm(deeds), ("put", 12, 2), 2, [12, 13])

    def test_some_price_list_decides_not_this_one(self):
        # On this board both ways leave the same, but not for a list with an entry.
        self.check_late(self.calm([("end", 3)]), ("raise", 5, 8, 1), 0, None)
        self.check_late(self.calm([("take", 5)]), ("raise", 2, 5, 1), 0, None)
        self.check_late(self.calm([("put", 3, 4)]), ("repeat", 5, 6, 3), 0, None)

    def test_deeds_behind_decide_together(self):
        # Only with the first one it would be late, but the second one undoes that.
        self.check_late(self.calm([("put", 4, 6), ("put", 4, 7)]), ("put", 4, 7), 0, [])
        self.check_late(self.calm([("put", 4, 6)]), ("put", 4, 7), 0, None)
        self.check_late(self.calm([("put", 4, 6), ("cover", 3, 5, 1)]), ("take", 4), 0, [])
        self.check_late(self.calm([("put", 4, 6)]), ("take", 4), 0, None)
        self.check_late(self.calm([("take", 4), ("end", 1)]), ("end", 2), 0, [])

    def test_deeds_ahead_do_not_count(self):
        # Behind the end alone it would be the same, but lists are asked ahead of the deed.
        self.check_late(self.calm([("end", 0), ("raise", 3, 8, 1)]), ("put", 5, None), 1, None)
        self.check_late(self.calm([("put", 4, 5), ("put", 2, 1)]), ("put", 4, 6), 1, [4, 5])

    def test_same_entries_are_not_asked_only_what_is_in_force(self):
        # Not the same entries, but alike lists.
        self.check_late(self.calm([("cover", 2, 6, 3)]), ("raise", 3, 4, 0), 0, [])
        self.check_late(self.calm([("raise", 3, 4, 0)]), ("cover", 2, 6, 3), 0, [2, 3, 4, 5])

    def test_a_board_that_is_not_calm_takes_them(self):
        board = Board(PriceList([]))
        board(("put", 4, 6))
        self.assert_days(board.late(("put", 4, 5), 0), [])
        self.assertEqual(board.program.deeds, [("put", 4, 5), ("put", 4, 6)])

    def test_errors_in_order(self):
        board = self.calm([("put", 4, 6), ("put", 4, 7)])
        for deed in WRONG_DEEDS:
            for index in (-1, 0, 3):
                self.assert_error(InvalidDeed, deed, board.late, deed, index)
        for index in (-1, -2, 3, 99):
            self.assert_error(UnknownDeed, index, board.late, ("take", 4), index)
        for index in (0, 1):
            self.assert_error(LateDeed, index, board.late, ("take", 4), index)
        self.assertEqual(board.program.deeds, [("put", 4, 6), ("put", 4, 7)])
        self.assertEqual(board.prices.entries, [(4, 7)])
        board.undo()
        self.assertEqual(board.program.deeds, [("put", 4, 6)])

    def test_drop_and_undo_are_never_late(self):
        board = self.calm([("put", 4, 6), ("take", 4), ("put", 4, 7)])
        self.assert_days(board.drop(2), [4, 5])
        self.assert_days(board.drop(1), [4, 5])
        self.assertIsNone(board.undo())
        self.assertIsNone(board.undo())
        self.assertEqual(board.program.deeds, [("put", 4, 6), ("take", 4), ("put", 4, 7)])

    def test_the_plain_way_on_few_days(self):
        source = random.Random(96)
        lists = plain.all_lists(range(5))
        late = []
        for _ in range(150):
            entries = plain.some_entries(source, 3, 4)
            board, second = CalmBoard(PriceList(entries)), PlainBoard(dict(entries))
            for _ in range(12):
                self.one_call(board, second, source, 3, lists, late)
        self.assertGreater(late.count(True), 100)
        self.assertGreater(late.count(False), 100)

    def test_the_plain_way_on_days_to_40(self):
        source = random.Random(97)
        late = []
        for _ in range(10):
            entries = plain.some_entries(source, 40, 41)
            board, second = CalmBoard(PriceList(entries)), PlainBoard(dict(entries))
            for _ in range(20):
                self.one_call(board, second, source, 40, None, late)
        self.assertIn(True, late)
        self.assertIn(False, late)

    def one_call(self, board, second, source, top, lists, late):
        word = source.choice(("call", "late", "late", "late", "drop", "undo"))
        deed = plain.some_deed(source, top)
        if second.deeds and source.random() < 0.4:
            deed = source.choice([source.choice(second.deeds), plain.greater(deed)])
        if word == "undo" and second.past:
            second.undo()
            self.assertIsNone(board.undo())
        elif word == "drop" and second.deeds:
            index = source.randrange(len(second.deeds))
            self.assert_days(board.drop(index), second.drop(index))
        elif word == "late":
            self.one_late(board, second, deed, max(0, len(second.deeds) - source.randint(0, 5)), lists, late)
        else:
            self.assert_days(board(deed), second.change(second.deeds + [deed]))
        self.assert_same(board, second)

    def one_late(self, board, second, deed, index, lists, late):
        behind = second.deeds[index:]
        lists = lists or plain.few_lists(plain.days_that_matter([deed] + behind))
        calm = plain.alike([deed] + behind, behind + [deed], lists)
        late.append(not calm)
        if calm:
            self.assert_days(board.late(deed, index), second.late(deed, index))
        else:
            self.assert_error(LateDeed, index, board.late, deed, index)


if __name__ == "__main__":
    unittest.main()
