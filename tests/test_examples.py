"""The examples of the interface, as they stand in the document.

>>> from inforce.lists import PriceList
>>> prices = PriceList([(20, 7), (10, 5), (15, 5)])
>>> [prices.entries, prices[9], prices[10], prices[19], prices[300], prices.changes(), len(prices)]
[[(10, 5), (15, 5), (20, 7)], None, 5, 5, 7, [(10, 5), (20, 7)], 3]
>>> [prices.alike(PriceList([(10, 5), (20, 7)])), prices == PriceList([(10, 5), (20, 7)]), prices.first_unlike(PriceList([(10, 5), (17, 6)])), PriceList([(3, None)]).alike(PriceList([]))]
[True, False, 17, True]

>>> from inforce.lists import PriceList
>>> from inforce.programs import Program
>>> prices = PriceList([(10, 5), (20, 7)])
>>> [Program([("put", 12, 6)]).done(prices).entries, Program([("take", 20)]).done(prices)[25], Program([("end", 15)]).done(prices).entries, Program([("cover", 12, 18, 9)]).done(prices).entries]
[[(10, 5), (12, 6), (20, 7)], 5, [(10, 5)], [(10, 5), (12, 9), (18, 5), (20, 7)]]
>>> [Program([("raise", 5, 25, 1)]).done(prices).entries, Program([("repeat", 30, 40, 10)]).done(prices).changes(), (Program([("take", 1)]) + Program([("end", 3)])).days(), len(Program([]))]
[[(5, None), (10, 6), (20, 8), (25, 7)], [(10, 5), (20, 7), (30, 5), (40, 7)], [1, 3], 0]

>>> from inforce.cases import answer, cases, fits, judge, line, line_answer
>>> from inforce.lists import PriceList
>>> from inforce.programs import Program
>>> put = Program([("put", 10, 5)])
>>> [judge(put, 20, cases(put, 20)), judge(put, 20, [([(11, 20, True)], ("of", 20, 0)), ([(11, 20, False)], ("price", 5))]), judge(put, 20, [([], ("price", 5))]), judge(put, 9, [([], ("of", 9, 0))])]
[True, True, False, True]
>>> [line(put, 20), line(Program([("take", 10)]), 20), line(Program([("cover", 3, 6, 9), ("raise", 2, 8, 1)]), 7), line_answer(line(put, 20), PriceList([(12, 8)]))]
[([(11, 20, 0)], 5), ([(11, 20, 0), (0, 9, 0)], None), ([(0, 7, 1)], None), 8]
>>> case = ([(11, 20, True), (5, 5, False)], ("of", 20, 3))
>>> [fits(case, PriceList([(15, 8)])), answer(case, PriceList([(15, 8)])), fits(case, PriceList([(5, 1), (15, 8)])), answer(case, PriceList([])), judge(Program([("take", 10)]), 20, [([(11, 20, True)], ("of", 20, 0)), ([(11, 20, False)], ("of", 9, 0))])]
[True, 11, False, None, True]

>>> from inforce.compare import alike, least_sets, may_change_places, needless, same_days, sure, unlike, untouched
>>> from inforce.programs import Program
>>> both = Program([("put", 10, 5), ("put", 20, 6)])
>>> [may_change_places(both, 0), alike(Program([("put", 10, 5), ("take", 10)]), Program([])), alike(Program([("put", 10, 5), ("take", 10)]), Program([("take", 10)]))]
[True, False, True]
>>> one, other = Program([("cover", 10, 20, 5), ("put", 15, 7)]), Program([("put", 15, 7), ("cover", 10, 20, 5)])
>>> prices, day = unlike(one, other)
>>> twice = Program([("cover", 3, 4, 1), ("cover", 2, 6, 9), ("raise", 2, 4, 0)])
>>> [one.done(prices)[day] == other.done(prices)[day], needless(twice), least_sets(twice), untouched(twice, 6), sure(twice, 5), sure(twice, 7), same_days(twice, 2, 5), same_days(Program([]), 2, 3)]
[False, [0, 2], [[1]], True, (9,), None, True, False]

>>> from inforce.boards import Board, CalmBoard
>>> from inforce.lists import PriceList
>>> board = Board(PriceList([(2, 5)]))
>>> [board(("put", 4, 6)), board(("cover", 3, 5, 7)), board.late(("put", 4, 9), 1), board.prices.entries, board.drop(1), board.undo(), len(board)]
[[4, 5], [3, 4], [5, 6], [(2, 5), (3, 7), (5, 9)], [5, 6], None, 3]
>>> calm = CalmBoard(PriceList([]))
>>> [calm(("put", 4, 6)), calm.late(("put", 2, 5), 0), calm.prices.changes(), calm == Board(PriceList([]))]
[[4, 5], [2, 3], [(2, 5), (4, 6)], False]

>>> from inforce.lists import PriceList
>>> from inforce.programs import Program
>>> from inforce.readings import read_prices, read_program
>>> from inforce.texts import show_prices, show_program
>>> program = Program([("cover", 2, 6, None), ("raise", 0, 9, -3), ("take", 4)])
>>> [show_prices(PriceList([(7, None), (3, 12)])), show_program(program), read_program(show_program(program)) == program, read_prices("") == PriceList([]), read_prices("3=12 7=-").entries]
['3=12 7=-', 'cover 2 6 -; raise 0 9 -3; take 4', True, True, [(3, 12), (7, None)]]
"""

import doctest
import unittest


class Examples(unittest.TestCase):
    def test_examples_of_the_interface(self):
        examples = doctest.DocTestParser().get_doctest(__doc__, {}, "interface", None, 0)
        self.assertEqual(len(examples.examples), 37)
        told = []
        doctest.DocTestRunner(verbose=False).run(examples, out=told.append)
        self.assertEqual("".join(told), "")


if __name__ == "__main__":
    unittest.main()
