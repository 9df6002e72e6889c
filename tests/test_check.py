import unittest

from tests.asking import GREAT, ask, begins, check, last, sail

FLEET = [begins(2, 9), sail(0, 5, 100), sail(4, 9, 30), sail(2, 9, 7), sail(1, 40, 1000)]


class Check(unittest.TestCase):
    def test_k_from_0_to_3(self):
        self.assertEqual(last(*FLEET, check(0, 15)), [1137, 4])
        self.assertEqual(last(*FLEET, check(1, 15)), [1137, 4])
        self.assertEqual(last(*FLEET, check(2, 15)), [1137, 4])
        self.assertEqual(last(*FLEET, check(3, 15)), [1137, 4])

    def test_k_4(self):
        self.assertEqual(last(*FLEET, check(4, 15)), [-1])
        self.assertEqual(last(*FLEET, check(GREAT, 15)), [-1])
        self.assertEqual(last(*FLEET, check(4, 0)), [-1])
        self.assertEqual(last(*FLEET, check(4, 16)), [-1])
        self.assertEqual(last(*[sail(0, 0)] * 9, check(4, 511)), [-1])

    def test_three_of_three(self):
        self.assertEqual(last(begins(0, 40), *[sail(0, 40, 1000)] * 3, check(3, 7)), [3000, 3])

    def test_nine_sails_at_most(self):
        nine = [begins(0, 40)] + [sail(0, 40, 1000)] * 9
        self.assertEqual(last(*nine, check(3, 511)), [9000, 9])
        self.assertEqual(last(*nine, check(3, 256)), [-6, 0, 1])
        self.assertEqual(last(*nine, check(0, 512)), [-1])

    def test_each_sail_alone(self):
        sails = [sail(0, 0, 10 + number) for number in range(9)]
        for number in range(9):
            self.assertEqual(last(*sails, check(1, 2 ** number)), [10 + number, 1])

    def test_set_that_names_a_sail_that_is_not_there(self):
        self.assertEqual(last(*FLEET, check(0, 16)), [-1])
        self.assertEqual(last(*FLEET, check(1, 17)), [-1])
        self.assertEqual(last(*FLEET, check(1, 31)), [-1])
        self.assertEqual(last(*FLEET, check(0, GREAT)), [-1])
        self.assertEqual(last(*FLEET, check(0, 2 ** 31)), [-1])

    def test_no_sails(self):
        self.assertEqual(ask(check(0, 0), check(1, 0), check(3, 0)), [[0, 0], [-6, 0, 0], [-6, 0, 0]])
        self.assertEqual(ask(check(0, 1), check(0, 2), check(1, 1), check(0, GREAT)), [[-1]] * 4)

    def test_empty_set(self):
        self.assertEqual(last(*FLEET, check(0, 0)), [0, 0])
        self.assertEqual(last(*FLEET, check(1, 0)), [-6, 2, 0])

    def test_enough(self):
        self.assertEqual(last(*FLEET, check(1, 3)), [130, 2])
        self.assertEqual(last(*FLEET, check(1, 4)), [7, 1])
        self.assertEqual(last(*FLEET, check(2, 12)), [1007, 2])
        self.assertEqual(last(*FLEET, check(2, 7)), [137, 3])

    def test_k_0_is_enough_wherever_they_stand(self):
        self.assertEqual(last(*FLEET, check(0, 1)), [100, 1])
        self.assertEqual(last(begins(30, 40), sail(0, 3, 8), check(0, 1)), [8, 1])

    def test_least_wind_that_is_short(self):
        self.assertEqual(last(*FLEET, check(1, 1)), [-6, 6, 0])
        self.assertEqual(last(*FLEET, check(1, 2)), [-6, 2, 0])
        self.assertEqual(last(*FLEET, check(2, 3)), [-6, 2, 1])
        self.assertEqual(last(*FLEET, check(3, 7)), [-6, 2, 2])
        self.assertEqual(last(*FLEET, check(3, 13)), [-6, 6, 2])
        self.assertEqual(last(*FLEET, check(3, 1)), [-6, 2, 1])

    def test_least_short_wind_not_the_shortest(self):
        fleet = [begins(0, 4), sail(0, 1), sail(0, 3), sail(0, 2)]
        self.assertEqual(last(*fleet, check(3, 7)), [-6, 2, 2])
        self.assertEqual(last(*fleet, check(2, 7)), [-6, 3, 1])
        self.assertEqual(last(*fleet, check(1, 7)), [-6, 4, 0])

    def test_short_in_the_least_or_greatest_wind_alone(self):
        self.assertEqual(last(begins(5, 9), sail(6, 9), check(1, 1)), [-6, 5, 0])
        self.assertEqual(last(begins(5, 9), sail(5, 8), check(1, 1)), [-6, 9, 0])
        self.assertEqual(last(begins(0, 40), sail(0, 39), check(1, 1)), [-6, 40, 0])

    def test_changes_nothing(self):
        told = ask(*FLEET, check(1, 4), check(4, 4), check(1, 16), check(3, 1), check(1, 4))
        self.assertEqual(told[5:], [[7, 1], [-1], [-1], [-6, 2, 1], [7, 1]])
