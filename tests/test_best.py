import unittest

from tests.asking import GREAT, ask, begins, best, check, last, sail

FLEET = [begins(0, 9), sail(0, 9, 50), sail(0, 4, 10), sail(5, 9, 10), sail(0, 9, 60)]


class Best(unittest.TestCase):
    def test_k_from_0_to_3(self):
        self.assertEqual(last(*FLEET, best(0)), [0, 0, 1, 0])
        self.assertEqual(last(*FLEET, best(1)), [20, 2, 1, 6])
        self.assertEqual(last(*FLEET, best(2)), [70, 3, 1, 7])
        self.assertEqual(last(*FLEET, best(3)), [130, 4, 1, 15])

    def test_k_4(self):
        self.assertEqual(last(*FLEET, best(4)), [-1])
        self.assertEqual(last(*FLEET, best(GREAT)), [-1])
        self.assertEqual(last(best(4)), [-1])
        self.assertEqual(last(*[sail(0, 0)] * 9, best(4)), [-1])

    def test_no_set_is_enough(self):
        self.assertEqual(ask(best(0), best(1), best(2), best(3)), [[0, 0, 1, 0], [-6], [-6], [-6]])
        self.assertEqual(last(begins(0, 9), sail(0, 4), sail(6, 9), best(1)), [-6])
        self.assertEqual(last(begins(0, 9), sail(0, 9), sail(0, 8), best(2)), [-6])
        self.assertEqual(last(begins(0, 9), sail(0, 9), sail(0, 9), best(3)), [-6])
        self.assertEqual(last(begins(0, 40), *[sail(0, 39)] * 9, best(1)), [-6])

    def test_cost_goes_before_number_of_sails(self):
        self.assertEqual(last(begins(0, 2), sail(0, 2, 4), sail(0, 0, 1), sail(1, 1, 1), sail(2, 2, 1), best(1)),
                         [3, 3, 1, 14])

    def test_of_equal_cost_the_fewest_sails(self):
        self.assertEqual(last(begins(0, 2), sail(0, 0, 1), sail(1, 2, 2), sail(0, 2, 3), best(1)), [3, 1, 1, 4])

    def test_of_equal_cost_and_sails_the_least_number(self):
        self.assertEqual(last(begins(0, 2), sail(0, 1, 5), sail(0, 2, 3), sail(0, 2, 3), sail(0, 2, 3), best(1)),
                         [3, 1, 3, 2])
        self.assertEqual(last(*[sail(0, 0, 4)] * 5, best(2)), [8, 2, 10, 3])

    def test_as_good_are_only_those_that_are_enough(self):
        self.assertEqual(last(begins(0, 2), sail(0, 1, 3), sail(0, 2, 3), sail(1, 2, 3), best(1)), [3, 1, 1, 2])

    def test_as_good_have_the_same_number_of_sails(self):
        self.assertEqual(last(begins(0, 1), sail(0, 0, 2), sail(1, 1, 2), sail(0, 1, 4), sail(0, 1, 4), best(1)),
                         [4, 1, 2, 4])

    def test_nine_sails_as_good(self):
        nine = [begins(0, 40)] + [sail(0, 40, 1000)] * 9
        self.assertEqual(last(*nine, best(0)), [0, 0, 1, 0])
        self.assertEqual(last(*nine, best(1)), [1000, 1, 9, 1])
        self.assertEqual(last(*nine, best(2)), [2000, 2, 36, 3])
        self.assertEqual(last(*nine, best(3)), [3000, 3, 84, 7])

    def test_best_is_the_last_sail(self):
        self.assertEqual(last(begins(0, 40), *[sail(0, 39, 0)] * 8, sail(0, 40, 1000), best(1)), [1000, 1, 1, 256])

    def test_sails_that_cost_0(self):
        self.assertEqual(last(sail(0, 0, 0), sail(0, 0, 0), best(0)), [0, 0, 1, 0])
        self.assertEqual(last(sail(0, 0, 0), sail(0, 0, 0), best(1)), [0, 1, 2, 1])
        self.assertEqual(last(sail(0, 0, 0), sail(0, 0, 0), best(2)), [0, 2, 1, 3])
        self.assertEqual(last(begins(0, 3), sail(0, 1, 0), sail(2, 3, 0), sail(0, 3, 0), best(1)), [0, 1, 1, 4])
        self.assertEqual(last(begins(0, 3), sail(0, 1, 0), sail(2, 3, 0), sail(0, 3, 1), best(1)), [0, 2, 1, 3])

    def test_sails_that_reach_beyond_the_winds(self):
        self.assertEqual(last(begins(10, 20), sail(0, 40, 9), sail(10, 20, 9), sail(11, 40, 1), best(1)), [9, 1, 2, 1])

    def test_more_than_six_calls(self):
        told = ask(*FLEET, *[best(1), best(2)] * 10)
        self.assertEqual(told[5:], [[20, 2, 1, 6], [70, 3, 1, 7]] * 10)

    def test_what_check_says_of_the_best(self):
        told = ask(*FLEET, best(2), check(2, 7), best(2))
        self.assertEqual(told[5:], [[70, 3, 1, 7], [70, 3], [70, 3, 1, 7]])

    def test_sails_that_come_between(self):
        told = ask(begins(0, 3), best(1), sail(0, 3, 9), best(1), sail(0, 3, 8), best(1), begins(0, 3), best(1))
        self.assertEqual(told, [[0], [-6], [0], [9, 1, 1, 1], [1], [8, 1, 1, 2], [0], [-6]])
