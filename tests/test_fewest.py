import unittest

from tests.asking import ask, begins, fewest, last, sail


class Fewest(unittest.TestCase):
    def test_order_in_which_they_are_taken(self):
        self.assertEqual(last(begins(0, 9), sail(7, 9), sail(3, 7), sail(0, 3), fewest()), [3, 2, 1, 0])
        self.assertEqual(last(begins(0, 9), sail(3, 7), sail(0, 3), sail(7, 9), fewest()), [3, 1, 0, 2])

    def test_each_time_the_farthest(self):
        self.assertEqual(last(begins(0, 9), sail(0, 2), sail(0, 5), sail(3, 6), sail(6, 9), fewest()), [2, 1, 3])
        self.assertEqual(last(begins(0, 9), sail(0, 5), sail(1, 8), sail(6, 7), sail(6, 9), fewest()), [2, 0, 3])

    def test_only_sails_that_stand_in_the_wind(self):
        self.assertEqual(last(begins(0, 9), sail(1, 9), sail(0, 0), fewest()), [2, 1, 0])
        self.assertEqual(last(begins(0, 9), sail(0, 3), sail(5, 9), sail(4, 4), fewest()), [3, 0, 2, 1])

    def test_sails_that_touch_or_overlap(self):
        self.assertEqual(last(begins(0, 9), sail(0, 4), sail(5, 9), fewest()), [2, 0, 1])
        self.assertEqual(last(begins(0, 9), sail(0, 4), sail(4, 9), fewest()), [2, 0, 1])
        self.assertEqual(last(begins(0, 9), sail(0, 4), sail(6, 9), fewest()), [-6, 5])

    def test_of_several_the_lowest_number(self):
        self.assertEqual(last(begins(0, 9), sail(0, 5), sail(0, 9), sail(0, 9), fewest()), [1, 1])
        self.assertEqual(last(begins(3, 9), sail(3, 5), sail(1, 5), sail(4, 9), sail(6, 9), fewest()), [2, 0, 2])
        self.assertEqual(last(*[sail(0, 0)] * 9, fewest()), [1, 0])

    def test_cost_does_not_count(self):
        self.assertEqual(last(begins(0, 9), sail(0, 4, 0), sail(5, 9, 0), sail(0, 9, 1000), fewest()), [1, 2])
        self.assertEqual(last(begins(0, 9), sail(0, 9, 1000), sail(0, 9, 0), fewest()), [1, 0])

    def test_wind_with_no_sail(self):
        self.assertEqual(last(begins(2, 9), sail(3, 9), fewest()), [-6, 2])
        self.assertEqual(last(begins(2, 9), sail(2, 8), fewest()), [-6, 9])
        self.assertEqual(last(begins(0, 40), sail(0, 9), sail(5, 20), sail(22, 30), fewest()), [-6, 21])
        self.assertEqual(last(begins(0, 40), sail(0, 39), fewest()), [-6, 40])

    def test_no_sails(self):
        self.assertEqual(ask(fewest()), [[-6, 0]])
        self.assertEqual(last(begins(7, 9), fewest()), [-6, 7])
        self.assertEqual(last(begins(40, 40), fewest()), [-6, 40])

    def test_sails_that_reach_beyond_the_winds(self):
        self.assertEqual(last(begins(10, 20), sail(0, 15), sail(12, 40), fewest()), [2, 0, 1])
        self.assertEqual(last(begins(10, 20), sail(0, 40), fewest()), [1, 0])
        self.assertEqual(last(begins(10, 20), sail(0, 9), sail(21, 40), fewest()), [-6, 10])
        self.assertEqual(last(begins(10, 20), sail(0, 9), sail(10, 10), sail(11, 40), fewest()), [2, 1, 2])

    def test_beyond_the_winds_the_farthest_too(self):
        self.assertEqual(last(begins(10, 20), sail(10, 20), sail(10, 30), fewest()), [1, 1])
        self.assertEqual(last(begins(10, 20), sail(5, 30), sail(10, 40), sail(0, 40), fewest()), [1, 1])

    def test_nine_taken(self):
        sails = [sail(4 * number, 4 * number + 3) for number in reversed(range(9))]
        self.assertEqual(last(begins(0, 35), *sails, fewest()), [9, 8, 7, 6, 5, 4, 3, 2, 1, 0])
        self.assertEqual(last(begins(0, 36), *sails, fewest()), [-6, 36])

    def test_changes_nothing(self):
        told = ask(begins(0, 9), sail(0, 4), fewest(), fewest(), sail(3, 9), fewest(), fewest())
        self.assertEqual(told[2:], [[-6, 5], [-6, 5], [1], [2, 0, 1], [2, 0, 1]])
