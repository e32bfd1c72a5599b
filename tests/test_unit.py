"""Promise 1, of unit, and what it answers."""

import unittest

from tests.lines import REFUSED, ask, every_row, unit, unit_by_search, wrong_rows


class Unit(unittest.TestCase):
    def unit_answers(self, cuts, wanted):
        with self.subTest(cuts=cuts):
            self.assertEqual(ask(unit(cuts)), [wanted])

    def test_the_empty_row(self):
        self.unit_answers([], [0])

    def test_one_cut(self):
        for cut in (0, 1, 2):
            self.unit_answers([cut], [1, cut])

    def test_one_cut_repeated(self):
        for cut in (0, 1, 2):
            for times in range(2, 41):
                self.unit_answers([cut] * times, [times, cut])

    def test_rows_that_are_their_own_unit(self):
        short = ([0, 1], [1, 0, 1], [0, 0, 1], [0, 1, 1, 0], [2, 1, 2, 1, 2], [0, 1, 0, 1, 0, 0])
        for cuts in short + ([0, 1, 2] * 13 + [0],):
            self.unit_answers(cuts, [1] + cuts)

    def test_units_of_several_cuts(self):
        parts = ([0, 1], [2, 0], [1, 0, 1], [0, 0, 1], [0, 1, 2, 1], [1, 1, 0, 1], [0, 1, 0, 1, 0], [2, 2, 1, 2, 2, 0])
        for part in parts:
            for times in range(1, 40 // len(part) + 1):
                self.unit_answers(part * times, [times] + part)

    def test_rows_that_repeat_but_for_their_last_cut(self):
        for part in ([0], [2, 0], [0, 0, 1], [0, 1, 2, 1], [0, 1, 0, 1, 0]):
            for times in range(2, 40 // len(part) + 1):
                cuts = part * times
                cuts[-1] = (cuts[-1] + 1) % 3
                self.unit_answers(cuts, [1] + cuts)

    def test_rows_that_end_within_a_unit(self):
        self.unit_answers([0, 1, 0], [1, 0, 1, 0])
        self.unit_answers([0, 1, 1, 0, 1], [1, 0, 1, 1, 0, 1])
        self.unit_answers([1, 1, 0, 1, 1], [1, 1, 1, 0, 1, 1])

    def test_40_cuts(self):
        for length in (1, 2, 4, 5, 8, 10, 20, 40):
            for last in (1, 2):
                part = [0] * (length - 1) + [last]
                self.unit_answers(part * (40 // length), [40 // length] + part)

    def test_every_row_of_up_to_8_cuts(self):
        for cuts in every_row(8):
            self.unit_answers(cuts, unit_by_search(cuts))

    def test_wrong_rows_are_refused(self):
        for cuts in wrong_rows():
            self.unit_answers(cuts, REFUSED)

    def test_wrong_rows_that_repeat_are_refused(self):
        for cuts in ([3, 3], [0, 3] * 20, [0] * 41, [0, 1] * 25, [1] * 50):
            self.unit_answers(cuts, REFUSED)

    def test_a_refused_row_is_read_whole(self):
        self.assertEqual(ask(unit([5] * 50), unit([6, 6]), unit([2, 2])), [REFUSED, REFUSED, [2, 2]])
