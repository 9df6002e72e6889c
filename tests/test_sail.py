import unittest

from tests.asking import GREAT, ask, begins, best, check, fewest, last, sail


class SailCall(unittest.TestCase):
    def test_numbers_in_order_then_full(self):
        told = ask(*[sail(wind, wind + 3) for wind in range(10)])
        self.assertEqual(told, [[0], [1], [2], [3], [4], [5], [6], [7], [8], [-5]])

    def test_full_without_begins_or_with_it(self):
        told = ask(begins(0, 40), *[sail(0, 40)] * 12)
        self.assertEqual(told[1:], [[number] for number in range(9)] + [[-5]] * 3)

    def test_greatest_40_and_41(self):
        self.assertEqual(ask(sail(0, 40), sail(40, 40)), [[0], [1]])
        self.assertEqual(ask(sail(0, 41), sail(41, 41), sail(0, GREAT)), [[-1]] * 3)

    def test_least_above_greatest(self):
        self.assertEqual(ask(sail(5, 5), sail(6, 5), sail(1, 0), sail(GREAT, 40)), [[0], [-1], [-1], [-1]])

    def test_cost_1000_and_1001(self):
        self.assertEqual(ask(sail(0, 5, 1000), sail(0, 5, 1001), sail(0, 5, GREAT)), [[0], [-1], [-1]])
        self.assertEqual(last(sail(0, 5, 1000), check(1, 1)), [1000, 1])

    def test_cost_0(self):
        self.assertEqual(ask(sail(0, 5, 0), check(1, 1)), [[0], [0, 1]])

    def test_of_several_refusals_the_first(self):
        nine = [sail(0, 0)] * 9
        self.assertEqual(last(*nine, sail(0, 0)), [-5])
        self.assertEqual(last(*nine, sail(0, 41)), [-1])
        self.assertEqual(last(*nine, sail(2, 1)), [-1])
        self.assertEqual(last(*nine, sail(0, 0, 1001)), [-1])
        self.assertEqual(last(*nine, sail(GREAT, GREAT, GREAT)), [-1])

    def test_refused_is_not_there(self):
        for refused in (sail(0, 41), sail(6, 5), sail(0, 5, 1001)):
            told = ask(begins(0, 5), refused, check(0, 1), best(1), fewest(), sail(0, 5, 7), check(1, 1))
            self.assertEqual(told[1:], [[-1], [-1], [-6], [-6, 0], [0], [7, 1]])

    def test_tenth_is_not_there(self):
        told = ask(begins(0, 5), *[sail(0, 4)] * 9, sail(0, 5), check(0, 512), check(0, 511), best(1), fewest())
        self.assertEqual(told[10:], [[-5], [-1], [9, 9], [-6], [-6, 5]])

    def test_stands_from_least_to_greatest(self):
        for wind in range(41):
            told = last(begins(wind, wind), sail(10, 20), check(1, 1))
            self.assertEqual(told, [1, 1] if 10 <= wind <= 20 else [-6, wind, 0])

    def test_sail_that_reaches_no_wind_that_matters(self):
        self.assertEqual(ask(begins(10, 20), sail(0, 9), sail(21, 40), check(0, 3), check(1, 3)),
                         [[0], [0], [1], [2, 2], [-6, 10, 0]])
