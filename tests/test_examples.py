"""The examples of the interface, as they stand in the document.

>>> from inforce.lists import PriceList
>>> prices = PriceList([(20, 7), (10, 5), (15, 5)])
>>> [prices.entries, prices[9], prices[10], prices[19], prices[300], prices.changes(), len(prices)]
[[(10, 5), (15, 5), (20, 7)], None, 5, 5, 7, [(10, 5), (20, 7)], 3]
>>> [prices.alike(PriceList([(10, 5), (20, 7)])), prices == PriceList([(10, 5), (20, 7)]), prices.first_unlike(PriceList([(10, 5), (17, 6)])), PriceList([(3, None)]).alike(PriceList([]))]
[True, False, 17, True]

>>> from inforce.lists import PriceList
>>> from inforce.programs import Program
>>> prices = PriceList([(10, 5), (20, 7)])
>>> [Program([("put", 12, 6)]).done(prices).entries, Program([("take", 20)]).done(prices)[25], Program([("end", 15)]).done(prices).entries, Program([("cover", 12, 18, 9)]).done(prices).entries]
[[(10, 5), (12, 6), (20, 7)], 5, [(10, 5)], [(10, 5), (12, 9), (18, 5), (20, 7)]]
>>> [Program([("raise", 5, 25, 1)]).done(prices).entries, Program([("repeat", 30, 40, 10)]).done(prices).changes(), (Program([("take", 1)]) + Program([("end", 3)])).days(), len(Program([]))]
[[(5, None), (10, 6), (20, 8), (25, 7)], [(10, 5), (20, 7), (30, 5), (40, 7)], [1, 3], 0]

>>> from inforce.cases import answer, cases, fits, judge, line, line_answer
>>> from inforce.lists import PriceList
>>> from inforce.programs import Program
>>> put = Program([("put", 10, 5)])
>>> [judge(put, 20, cases(put, 20)), judge(put, 20, [([(11, 20, True)], ("of", 20, 0)), ([(11, 20, False)], ("price", 5))]), judge(put, 20, [([], ("price", 5))]), judge(put, 9, [([], ("of", 9, 0))])]
[True, True, False, True]
>>> [line(put, 20), line(Program([("take", 10)]), 20), line(Program([("cover", 3, 6, 9), ("raise", 2, 8, 1)]), 7), line_answer(line(put, 20), PriceList([(12, 8)]))]
[([(11, 20, 0)], 5), ([(11, 20, 0), (0, 9, 0)], None), ([(0, 7, 1)], None), 8]
>>> case = ([(11, 20, True), (5, 5, False)], ("of", 20, 3))
>>> [fits(case, PriceList([(15, 8)])), answer(case, PriceList([(15, 8)])), fits(case, PriceList([(5, 1), (15, 8)])), answer(case, PriceList([])), judge(Program([("take", 10)]), 20, [([(11, 20, True)], ("of", 20, 0)), ([(11, 20, False)], ("of", 9, 0))])]
[True, 11, False, None, True]
"""

import doctest
import unittest


class Examples(unittest.TestCase):
    def test_examples_of_the_interface(self):
        examples = doctest.DocTestParser().get_doctest(__doc__, {}, "interface", None, 0)
        self.assertEqual(len(examples.examples), 17)
        told = []
        doctest.DocTestRunner(verbose=False).run(examples, out=told.append)
        self.assertEqual("".join(told), "")


if __name__ == "__main__":
    unittest.main()
