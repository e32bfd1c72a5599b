"""The interface: lines of several calls, what is handed in, what is given back."""

import contextlib
import io
import random
import unittest

from netcuts.tapers import answers
from tests.lines import (
    GREATEST, NO_ROW, REFUSED, ask, begins, best, check, leads_to, left, line, reckoned, right, taken_apart, unit,
    widths)

MIXED_CALLS = [
    widths(), begins(12), left([0, 1, 1]), best(1, 0), right([3]), begins(1001), best(3, 1),
    right([1, 2, 1]), widths(), check(3, 1, [1, 0]), check(3, 2, [1, 0]), unit([2, 1, 2, 1]),
    best(11, 1), left([0] * 50), unit([4]), check(1001, 0, []), begins(2), left([1]), right([2, 1]),
    widths(), unit([]), best(0, 0)]

MIXED = line(*MIXED_CALLS)

MIXED_ANSWERS = [
    2, 0, 0, 1, 0, 2, 4, 2, 1, -6, 1, -1, 1, -1, 4, 2, 2, 0, 1,
    2, 2, 4, 4, 17, 12, 9, 8, 1, 2, 3, -6, 3, 1, 3, 2, 2, 1,
    1, -1, 1, -1, 1, -1, 1, -1, 1, 0, 2, 1, 1, 2, 1, 3,
    2, -6, 1, 1, 0, 2, 0, 1]


class Chosen:
    """Calls of all kinds, chosen by a number: the same number always chooses the same."""

    def __init__(self, seed):
        self.source = random.Random(seed)

    def far(self, most):
        """Mostly up to some number, at times just above it or far above it."""
        return self.source.choice([self.source.randint(0, most)] * 9 + [most, most + 1, GREATEST])

    def row(self):
        length = self.source.choice([self.source.randint(0, 6)] * 4 + [self.source.randint(0, 50), 40, 41])
        cuts = [self.source.randint(0, 2) for place in range(length)]
        if cuts and self.source.randint(0, 9) == 0:
            cuts[self.source.randrange(length)] = self.source.choice([3, GREATEST])
        return cuts

    def check(self):
        cuts = self.row()
        depth, way_in = leads_to(cuts)
        if self.source.randint(0, 2) == 0:
            depth, way_in = self.far(1000), self.source.choice([way_in, self.far(1000)])
        return check(depth, way_in, cuts)

    def call(self):
        kind = self.source.randint(0, 6)
        if kind == 0:
            return begins(self.source.choice([self.far(20), self.far(1000)]))
        if kind == 3:
            return best(self.far(10), self.far(10))
        if kind == 4:
            return self.check()
        if kind == 5:
            return unit(self.source.choice([self.row(), (self.row() * 6)[:50]]))
        if kind == 6:
            return widths()
        return left(self.row()) if kind == 1 else right(self.row())

    def calls(self, count):
        return [self.call() for place in range(count)]


def refused_change(self, *told, **named):
    raise AssertionError("what was handed in was changed")


class Untouched(list):
    """A list that tells of any change to it, also of one that is taken back."""
    __setitem__ = __delitem__ = __iadd__ = __imul__ = refused_change
    append = extend = insert = pop = remove = clear = sort = reverse = refused_change


class Lines(unittest.TestCase):
    def test_one_call(self):
        self.assertEqual(answers([0, 5]), [1, 0])
        self.assertEqual(answers([1, 0]), [2, 0, 0])
        self.assertEqual(answers([2, 2, 0, 1]), [2, 3, 1])
        self.assertEqual(answers([3, 4, 2]), [5, 2, 1, 1, 0, 1])
        self.assertEqual(answers([3, 0, 0]), [2, 0, 1])
        self.assertEqual(answers([3, 0, 1]), [1, -6])
        self.assertEqual(answers([4, 4, 2, 3, 1, 0, 1]), [1, 2])
        self.assertEqual(answers([4, 4, 3, 3, 1, 0, 1]), [3, -6, 4, 2])
        self.assertEqual(answers([4, 0, 0, 0]), [1, 0])
        self.assertEqual(answers([5, 4, 1, 0, 1, 0]), [3, 2, 1, 0])
        self.assertEqual(answers([5, 0]), [1, 0])
        self.assertEqual(answers([6]), [2, 0, 0])
        self.assertEqual(answers([0, GREATEST]), [1, -1])

    def test_several_calls_with_refusals_among_them(self):
        self.assertEqual(answers(MIXED), MIXED_ANSWERS)

    def test_all_seven_kinds_against_a_plain_reckoning(self):
        for seed in range(300):
            calls = Chosen(seed).calls(1 + seed % 60)
            with self.subTest(seed=seed):
                handed_in = line(*calls)
                told = answers(handed_in)
                self.assertEqual(taken_apart(told), reckoned(calls))
                self.assertEqual(handed_in, line(*calls))
                self.assertEqual(answers(handed_in), told)

    def test_the_plain_reckoning_agrees_with_the_mixed_line(self):
        self.assertEqual(reckoned(MIXED_CALLS), taken_apart(MIXED_ANSWERS))

    def test_60_calls_of_each_kind(self):
        self.assertEqual(ask(*[check(40, 40, [0] * 20 + [2] * 20)] * 60), [[1600]] * 60)
        self.assertEqual(ask(*[unit([0, 1] * 20)] * 60), [[20, 0, 1]] * 60)
        self.assertEqual(ask(*[widths()] * 60), [[0, 0]] * 60)
        wide = [begins(1000), left([0] * 40), right([0] * 40)]
        self.assertEqual(ask(*wide, *[widths()] * 57)[3:], [[80000] + [1000] * 81] * 57)

    def test_60_calls(self):
        calls = [begins(1000), left([2]), right([0, 3]), best(2, 2), best(0, 1), right([1] * 40)] * 10
        wanted = [[0], [0, 2], REFUSED, [0, 1, 1, 1], NO_ROW, [40, 40]] * 10
        self.assertEqual(ask(*calls), wanted)

    def test_60_rows_of_50_numbers(self):
        self.assertEqual(ask(*[left([0] * 50), right([GREATEST] * 50)] * 30), [REFUSED] * 60)

    def test_60_calls_of_best(self):
        self.assertEqual(ask(*[best(10, 10)] * 60), [[0, 1] + [1] * 10] * 60)
        self.assertEqual(ask(*[best(10, 4)] * 60), [[6, 1, 1, 0, 1, 0, 1, 0, 1]] * 60)


class HandedInAndGivenBack(unittest.TestCase):
    def test_the_list_is_as_it_was(self):
        handed_in = list(MIXED)
        answers(handed_in)
        self.assertEqual(handed_in, MIXED)

    def test_the_list_is_not_changed_for_a_while_either(self):
        handed_in = Untouched(MIXED)
        self.assertEqual(answers(handed_in), MIXED_ANSWERS)
        self.assertEqual(list(handed_in), MIXED)

    def test_the_same_line_twice(self):
        self.assertEqual(answers(MIXED), answers(MIXED))

    def test_nothing_is_kept_from_line_to_line(self):
        first = answers(MIXED)
        first.clear()
        answers(line(begins(999), left([2] * 40), right([1] * 40), widths(), unit([0, 0]), best(10, 2)))
        self.assertEqual(answers(MIXED), MIXED_ANSWERS)

    def test_whole_numbers_in_a_list(self):
        told = answers(MIXED)
        self.assertIs(type(told), list)
        self.assertEqual({type(number) for number in told}, {int})
        self.assertEqual(len(taken_apart(told)), 22)

    def test_nothing_is_printed(self):
        printed = io.StringIO()
        with contextlib.redirect_stdout(printed), contextlib.redirect_stderr(printed):
            answers(MIXED)
        self.assertEqual(printed.getvalue(), "")
