"""The interface: lines of several calls, what is handed in, what is given back."""

import contextlib
import io
import unittest

from netcuts.tapers import answers
from tests.lines import GREATEST, NO_ROW, REFUSED, ask, begins, best, left, line, right, taken_apart

MIXED = line(
    begins(12), left([0, 1, 1]), best(1, 0), right([3]), begins(1001), best(3, 1),
    right([2, 2]), best(11, 1), left([0] * 50), begins(0), left([]), best(0, 0))

MIXED_ANSWERS = [
    1, 0, 2, 4, 2, 1, -6, 1, -1, 1, -1, 4, 2, 2, 0, 1,
    2, 0, 4, 1, -1, 1, -1, 1, 0, 2, 0, 0, 2, 0, 1]


def refused_change(self, *told, **named):
    raise AssertionError("what was handed in was changed")


class Untouched(list):
    """A list that tells of any change to it, also of one that is taken back."""
    __setitem__ = __delitem__ = __iadd__ = __imul__ = refused_change
    append = extend = insert = pop = remove = clear = sort = reverse = refused_change


class Lines(unittest.TestCase):
    def test_one_call(self):
        self.assertEqual(answers([0, 5]), [1, 0])
        self.assertEqual(answers([1, 0]), [2, 0, 0])
        self.assertEqual(answers([2, 2, 0, 1]), [2, 3, 1])
        self.assertEqual(answers([3, 4, 2]), [5, 2, 1, 1, 0, 1])
        self.assertEqual(answers([3, 0, 0]), [2, 0, 1])
        self.assertEqual(answers([3, 0, 1]), [1, -6])
        self.assertEqual(answers([0, GREATEST]), [1, -1])

    def test_several_calls_with_refusals_among_them(self):
        self.assertEqual(answers(MIXED), MIXED_ANSWERS)

    def test_60_calls(self):
        calls = [begins(1000), left([2]), right([0, 3]), best(2, 2), best(0, 1), right([1] * 40)] * 10
        wanted = [[0], [0, 2], REFUSED, [0, 1, 1, 1], NO_ROW, [40, 40]] * 10
        self.assertEqual(ask(*calls), wanted)

    def test_60_rows_of_50_numbers(self):
        self.assertEqual(ask(*[left([0] * 50), right([GREATEST] * 50)] * 30), [REFUSED] * 60)

    def test_60_calls_of_best(self):
        self.assertEqual(ask(*[best(10, 10)] * 60), [[0, 1] + [1] * 10] * 60)
        self.assertEqual(ask(*[best(10, 4)] * 60), [[6, 1, 1, 0, 1, 0, 1, 0, 1]] * 60)


class HandedInAndGivenBack(unittest.TestCase):
    def test_the_list_is_as_it_was(self):
        handed_in = list(MIXED)
        answers(handed_in)
        self.assertEqual(handed_in, MIXED)

    def test_the_list_is_not_changed_for_a_while_either(self):
        handed_in = Untouched(MIXED)
        self.assertEqual(answers(handed_in), MIXED_ANSWERS)
        self.assertEqual(list(handed_in), MIXED)

    def test_the_same_line_twice(self):
        self.assertEqual(answers(MIXED), answers(MIXED))

    def test_nothing_is_kept_from_line_to_line(self):
        first = answers(MIXED)
        first.clear()
        answers(line(begins(999), left([2] * 40), best(10, 2)))
        self.assertEqual(answers(MIXED), MIXED_ANSWERS)

    def test_whole_numbers_in_a_list(self):
        told = answers(MIXED)
        self.assertIs(type(told), list)
        self.assertEqual({type(number) for number in told}, {int})
        self.assertEqual(len(taken_apart(told)), 12)

    def test_nothing_is_printed(self):
        printed = io.StringIO()
        with contextlib.redirect_stdout(printed), contextlib.redirect_stderr(printed):
            answers(MIXED)
        self.assertEqual(printed.getvalue(), "")
