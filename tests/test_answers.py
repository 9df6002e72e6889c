import contextlib
import inspect
import io
import unittest

from sailwardrobe import loft
from sailwardrobe.loft import answers
from tests.asking import GREAT, ask, begins, best, check, fewest, joined, sail

MIXED = joined([
    begins(2, 9), sail(0, 5, 100), sail(4, 9, 30), check(1, 3), check(1, 1), best(1), best(2), fewest(),
    begins(9, 2), sail(1, 41, 5), check(4, 0), best(GREAT), begins(0, 3), fewest(),
])
MIXED_ANSWERS = [
    1, 0, 1, 0, 1, 1, 2, 130, 2, 3, -6, 6, 0, 4, 130, 2, 1, 3, 1, -6, 3, 2, 0, 1,
    1, -1, 1, -1, 1, -1, 1, -1, 1, 0, 2, -6, 0,
]


class Untouched(list):
    """A list that tells when it is changed, for a while too."""

    def refuse(self, *given, **named):
        raise AssertionError("the list that was handed in was changed")

    append = extend = insert = pop = remove = clear = sort = reverse = refuse
    __setitem__ = __delitem__ = __iadd__ = __imul__ = refuse


class Answers(unittest.TestCase):
    def test_count_before_the_numbers_of_each_call(self):
        self.assertEqual(answers(list(MIXED)), MIXED_ANSWERS)

    def test_one_call(self):
        self.assertEqual(answers([0, 0, 40]), [1, 0])
        self.assertEqual(answers([1, 0, 40, 1000]), [1, 0])
        self.assertEqual(answers([2, 0, 0]), [2, 0, 0])
        self.assertEqual(answers([2, 1, 0]), [3, -6, 0, 0])
        self.assertEqual(answers([3, 0]), [4, 0, 0, 1, 0])
        self.assertEqual(answers([3, 1]), [1, -6])
        self.assertEqual(answers([4]), [2, -6, 0])

    def test_at_the_beginning_wind_0_alone_and_no_sails(self):
        self.assertEqual(ask(check(0, 1), sail(0, 0, 3), check(1, 1), best(1), fewest()),
                         [[-1], [0], [3, 1], [3, 1, 1, 1], [1, 0]])
        self.assertEqual(ask(sail(1, 40), check(1, 1), best(1), fewest()), [[0], [-6, 0, 0], [-6], [-6, 0]])

    def test_60_calls(self):
        self.assertEqual(answers([4] * 60), [2, -6, 0] * 60)
        self.assertEqual(answers([3, 0] * 60), [4, 0, 0, 1, 0] * 60)
        calls = [begins(0, 40)] + [sail(0, 40, 1000)] * 10 + [best(3), check(3, 511), fewest()] * 16 + [begins(1, 0)]
        self.assertEqual(len(calls), 60)
        told = ask(*calls)
        self.assertEqual(told[:11], [[0]] + [[number] for number in range(9)] + [[-5]])
        self.assertEqual(told[11:59], [[3000, 3, 84, 7], [9000, 9], [1, 0]] * 16)
        self.assertEqual(told[59], [-1])

    def test_60_sails_and_checks_of_the_greatest_numbers(self):
        self.assertEqual(answers([1, GREAT, GREAT, GREAT] * 60), [1, -1] * 60)
        self.assertEqual(answers([2, GREAT, GREAT] * 60), [1, -1] * 60)

    def test_list_handed_in_is_the_same_afterwards(self):
        handed = list(MIXED)
        answers(handed)
        self.assertEqual(handed, MIXED)

    def test_list_handed_in_is_not_changed_for_a_while(self):
        self.assertEqual(answers(Untouched(MIXED)), MIXED_ANSWERS)

    def test_answers_are_a_list_of_its_own(self):
        handed = list(MIXED)
        told = answers(handed)
        self.assertIsNot(told, handed)
        told.clear()
        self.assertEqual(answers(handed), MIXED_ANSWERS)

    def test_a_second_time_gives_what_the_first_gave(self):
        self.assertEqual(answers(list(MIXED)), MIXED_ANSWERS)
        answers(joined([begins(5, 6)] + [sail(0, 40, 0)] * 9))
        self.assertEqual(answers(list(MIXED)), MIXED_ANSWERS)
        self.assertEqual(answers([4]), [2, -6, 0])

    def test_whole_numbers_and_lists_alone(self):
        told = answers(list(MIXED))
        self.assertIs(type(told), list)
        self.assertEqual({type(number) for number in told}, {int})

    def test_prints_nothing(self):
        shown = io.StringIO()
        with contextlib.redirect_stdout(shown), contextlib.redirect_stderr(shown):
            answers(list(MIXED))
        self.assertEqual(shown.getvalue(), "")

    def test_interface(self):
        self.assertEqual(list(inspect.signature(loft.answers).parameters), ["calls"])
        self.assertEqual(loft.answers.__module__, "sailwardrobe.loft")
        self.assertEqual(answers(calls=[4]), [2, -6, 0])
