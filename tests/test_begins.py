import unittest

from tests.asking import GREAT, ask, begins, best, check, fewest, last, sail


def winds_that_matter(*calls):
    """The least and the greatest wind that matter, read off the answers to other calls.

    No sail stands in the least; a sail that ends at g leaves the wind g + 1 short, if it matters.
    """
    least = last(*calls, check(1, 0))[1]
    greatest = least
    while last(*calls, sail(0, greatest), check(1, 1))[0] == -6:
        greatest += 1
    return least, greatest


class Begins(unittest.TestCase):
    def test_ordinary_winds(self):
        self.assertEqual(ask(begins(3, 12)), [[0]])
        self.assertEqual(winds_that_matter(begins(3, 12)), (3, 12))

    def test_least_equal_to_greatest(self):
        for wind in (0, 1, 17, 39, 40):
            self.assertEqual(ask(begins(wind, wind)), [[0]])
            self.assertEqual(winds_that_matter(begins(wind, wind)), (wind, wind))

    def test_greatest_40(self):
        self.assertEqual(ask(begins(0, 40)), [[0]])
        self.assertEqual(winds_that_matter(begins(0, 40)), (0, 40))

    def test_greatest_41(self):
        self.assertEqual(ask(begins(0, 41)), [[-1]])
        self.assertEqual(ask(begins(41, 41)), [[-1]])

    def test_least_above_greatest(self):
        self.assertEqual(ask(begins(13, 12)), [[-1]])
        self.assertEqual(ask(begins(1, 0)), [[-1]])
        self.assertEqual(ask(begins(41, 40)), [[-1]])

    def test_the_greatest_numbers(self):
        self.assertEqual(ask(begins(0, GREAT)), [[-1]])
        self.assertEqual(ask(begins(GREAT, 0)), [[-1]])
        self.assertEqual(ask(begins(GREAT, GREAT)), [[-1]])

    def test_takes_all_sails_away(self):
        told = ask(begins(0, 5), sail(0, 5), sail(0, 5), begins(0, 5),
                   check(0, 1), best(1), fewest(), sail(0, 5), check(1, 1), check(0, 2))
        self.assertEqual(told, [[0], [0], [1], [0], [-1], [-6], [-6, 0], [0], [1, 1], [-1]])

    def test_takes_nine_sails_away(self):
        told = ask(*[sail(0, 0)] * 9, begins(0, 0), *[sail(0, 0)] * 10)
        self.assertEqual(told[9:], [[0]] + [[number] for number in range(9)] + [[-5]])

    def test_begins_again_with_other_winds(self):
        self.assertEqual(winds_that_matter(begins(3, 12), begins(20, 25)), (20, 25))
        self.assertEqual(winds_that_matter(begins(3, 12), begins(5, 7)), (5, 7))

    def test_refused_leaves_winds_as_they_were(self):
        for refused in (begins(5, 41), begins(9, 8), begins(GREAT, GREAT), begins(0, GREAT)):
            self.assertEqual(winds_that_matter(begins(3, 12), refused), (3, 12))
            self.assertEqual(winds_that_matter(refused), (0, 0))

    def test_refused_leaves_sails_as_they_were(self):
        for refused in (begins(5, 41), begins(9, 8), begins(GREAT, GREAT), begins(0, GREAT)):
            told = ask(begins(3, 12), sail(3, 8, 10), sail(7, 12, 20), refused,
                       check(1, 3), best(1), fewest(), sail(3, 12))
            self.assertEqual(told[3:], [[-1], [30, 2], [30, 2, 1, 3], [2, 0, 1], [2]])
