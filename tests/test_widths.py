"""What widths answers, and which calls change the panel that it tells of."""

import unittest

from tests.lines import (
    GREATEST, NO_ROW, REFUSED, ask, begins, best, check, every_row, leads_to, left, right, unit, widths,
    widths_by_words, wrong_rows)


def panel(width, left_side, right_side):
    return begins(width) + left(left_side) + right(right_side)


def mirrored(width, left_side, right_side):
    return begins(width) + right(left_side) + left(right_side)


class Panels(unittest.TestCase):
    def widths_answer(self, width, one_side, other_side, wanted):
        with self.subTest(width=width, sides=(one_side, other_side)):
            self.assertEqual(ask(panel(width, one_side, other_side), widths())[-1], wanted)
            self.assertEqual(ask(mirrored(width, one_side, other_side), widths())[-1], wanted)


class Widths(Panels):
    def test_at_the_lines_beginning(self):
        self.assertEqual(ask(widths()), [[0, 0]])

    def test_after_begins_alone(self):
        for width in (0, 1, 7, 1000):
            self.assertEqual(ask(begins(width), widths()), [[0], [0, width]])

    def test_one_side_alone(self):
        for side in (left, right):
            self.assertEqual(ask(begins(9), side([0, 1, 1]), widths())[-1], [0, 9])
            self.assertEqual(ask(begins(9), side([2, 0, 1]), widths())[-1], [0, 7])

    def test_sides_on_a_panel_that_is_0_wide(self):
        self.assertEqual(ask(left([0]), right([0]), widths())[-1], [0, 0, 0, 0])
        self.assertEqual(ask(left([0, 1]), right([0, 1]), widths())[-1], [-6, 3])

    def test_sides_of_one_depth(self):
        self.widths_answer(10, [1, 1], [1, 1], [14, 10, 8, 6])
        self.widths_answer(12, [0, 1, 1], [1, 1, 1, 1], [35, 12, 11, 10, 8, 6])

    def test_sides_of_different_depths(self):
        self.widths_answer(10, [1], [1, 1, 1], [8, 10, 8])
        self.widths_answer(10, [0], [1, 1, 1], [17, 10, 9, 8])
        self.widths_answer(10, [0, 0, 0], [1], [9, 10, 9])

    def test_meshes_at_the_beginning(self):
        self.widths_answer(10, [2, 1], [1], [6, 8, 6])
        self.widths_answer(10, [2, 2, 0], [2, 1, 1], [5, 4, 3, 2])
        self.widths_answer(10, [2], [2], [0, 6])
        self.widths_answer(10, [2], [], [0, 8])

    def test_meshes_in_the_middle(self):
        self.widths_answer(10, [1, 2, 1], [0], [13, 10, 7, 6])
        self.widths_answer(20, [1, 2, 2, 1], [1, 2, 0], [23, 20, 12, 11])

    def test_meshes_at_the_end(self):
        self.widths_answer(10, [1, 2], [1], [6, 10, 6])
        self.widths_answer(10, [0, 2, 2], [0], [16, 10, 10, 6])

    def test_meshes_of_the_deeper_side_at_the_panels_own_depth(self):
        self.widths_answer(10, [1, 2, 2, 1], [1], [4, 10, 4])
        self.widths_answer(10, [2, 2, 0], [], [0, 6])

    def test_points_pass_a_depth_by(self):
        self.widths_answer(10, [0], [0], [20, 10, 10, 10])
        self.widths_answer(10, [0, 2, 0], [0, 0], [34, 10, 10, 8, 8, 8])
        self.widths_answer(10, [1, 0, 1], [0, 0], [35, 10, 9, 9, 9, 8])

    def test_a_point_that_passes_the_panels_own_depth_by(self):
        self.widths_answer(10, [0, 2], [1], [9, 10, 9])
        self.widths_answer(10, [1, 0, 2, 2], [1, 1], [15, 10, 8, 7])

    def test_long_sides(self):
        self.widths_answer(1000, [0] * 40, [0] * 40, [80000] + [1000] * 81)
        self.widths_answer(80, [1] * 40, [1] * 40, [1560] + list(range(80, -1, -2)))
        self.widths_answer(160, [2] * 40, [2] * 40, [0, 0])
        self.widths_answer(159, [2] * 40, [2] * 40, [-6, 0])


class Crossing(Panels):
    def test_at_depth_0(self):
        self.widths_answer(3, [2, 0], [2, 0], [-6, 0])
        self.widths_answer(1, [2], [], [-6, 0])
        self.widths_answer(0, [2, 1], [1], [-6, 0])

    def test_at_some_depth(self):
        self.widths_answer(4, [1, 1, 1, 1], [1, 1, 1, 1], [-6, 3])
        self.widths_answer(4, [0, 2, 2, 2, 0], [0, 0], [-6, 2])
        self.widths_answer(1, [0, 1, 0], [1, 1, 1, 0], [-6, 2])

    def test_at_the_last_depth(self):
        self.widths_answer(3, [1, 1], [1, 1], [-6, 2])
        self.widths_answer(3, [0, 2], [0, 2], [-6, 2])
        self.widths_answer(79, [1] * 40, [1] * 40, [-6, 40])

    def test_just_as_far_in_as_the_panel_is_wide(self):
        self.widths_answer(4, [2], [2], [0, 0])
        self.widths_answer(4, [1, 1], [1, 1], [2, 4, 2, 0])
        self.widths_answer(4, [0, 2], [0, 2], [4, 4, 4, 0])
        self.widths_answer(4, [2, 0], [2, 0], [0, 0, 0, 0])

    def test_and_by_one_more(self):
        self.widths_answer(3, [2], [2], [-6, 0])
        self.widths_answer(3, [1, 1], [1, 1], [-6, 2])
        self.widths_answer(3, [0, 2], [0, 2], [-6, 2])
        self.widths_answer(3, [2, 0], [2, 0], [-6, 0])

    def test_below_the_panels_own_depth_it_does_not_count(self):
        self.widths_answer(2, [1], [1, 1, 1, 1], [0, 2, 0])
        self.widths_answer(0, [], [1, 1, 2, 2], [0, 0])
        self.widths_answer(1, [0], [0, 1, 2, 2], [2, 1, 1, 1])


class ManyPanels(Panels):
    def test_all_pairs_of_short_sides(self):
        rows = every_row(3)
        for left_side in rows:
            for right_side in rows:
                all_in = leads_to(left_side)[1] + leads_to(right_side)[1]
                for width in (0, 2, max(all_in - 1, 0), all_in, all_in + 1):
                    self.widths_answer(width, left_side, right_side, widths_by_words(width, left_side, right_side))

    def test_long_sides(self):
        pattern = [0, 1, 2, 2, 0, 1, 1, 0, 2, 1, 0, 0, 1] * 7
        for shift in range(13):
            for length in (5, 12, 27, 39, 40):
                left_side = pattern[shift:shift + length]
                right_side = pattern[2 * shift + 3:][:40]
                for width in (0, 3, 20, 50, 77, 100, 1000):
                    self.widths_answer(width, left_side, right_side, widths_by_words(width, left_side, right_side))


class WhatChangesThePanel(unittest.TestCase):
    def test_begins_empties_both_sides(self):
        self.assertEqual(
            ask(panel(9, [2, 0], [0, 1]), widths(), begins(9), widths(), right([0]), widths(), begins(5), left([0]),
                widths())[3:],
            [[14, 7, 7, 7], [0], [0, 9], [2, 0], [0, 9], [0], [2, 0], [0, 5]])

    def test_each_side_is_put_in_the_place_of_what_it_was(self):
        self.assertEqual(
            ask(panel(9, [2, 0], [0]), widths(), left([1, 1]), widths(), right([1]), widths(), left([]), widths(),
                right([2, 2]), widths())[3:],
            [[14, 7, 7, 7], [2, 2], [15, 9, 8, 7], [1, 1], [7, 9, 7], [0, 0], [0, 9], [0, 4], [0, 5]])

    def test_a_side_stays_when_the_other_is_put_in(self):
        self.assertEqual(
            ask(begins(9), right([2, 1]), left([1]), widths(), left([0]), widths())[3:],
            [[5, 7, 5], [2, 0], [6, 7, 6]])

    def test_a_refused_call_changes_nothing(self):
        refused = [begins(1001), begins(GREATEST), best(11, 0), best(0, GREATEST)]
        refused += [check(1001, 0, []), check(0, 1001, [])]
        for cuts in wrong_rows():
            refused += [left(cuts), right(cuts), unit(cuts), check(3, 1, cuts)]
        for call in refused:
            with self.subTest(call=call):
                self.assertEqual(
                    ask(panel(9, [2, 0], [0, 1]), widths(), call, widths())[3:],
                    [[14, 7, 7, 7], REFUSED, [14, 7, 7, 7]])

    def test_minus_6_changes_nothing(self):
        self.assertEqual(
            ask(panel(9, [2, 0], [0, 1]), best(1, 0), widths(), check(4, 4, [0]), widths())[3:],
            [NO_ROW, [14, 7, 7, 7], [-6, 2, 0], [14, 7, 7, 7]])
        self.assertEqual(
            ask(panel(3, [1, 1], [1, 1, 0]), widths(), widths(), right([0]), widths())[3:],
            [[-6, 2], [-6, 2], [2, 0], [3, 3, 2, 1]])

    def test_calls_that_only_ask_change_nothing(self):
        asked = [check(3, 1, [0, 1]), check(0, 0, []), unit([1, 2, 1, 2]), unit([]), best(3, 1), best(0, 0), widths()]
        for call in asked:
            with self.subTest(call=call):
                told = ask(panel(9, [2, 0], [0, 1]), widths(), call, call, widths())
                self.assertEqual((told[3], told[6]), ([14, 7, 7, 7], [14, 7, 7, 7]))
                self.assertEqual(told[4], told[5])
