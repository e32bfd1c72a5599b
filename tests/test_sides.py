"""Promise 1, of left and right."""

import unittest

from netcuts.panel import Panel
from tests.lines import GREATEST, REFUSED, ask, leads_to, left, right

SIDES = (left, right)


class Sides(unittest.TestCase):
    def each_side_answers(self, cuts, wanted):
        for side in SIDES:
            with self.subTest(side=side.__name__, cuts=cuts):
                self.assertEqual(ask(side(cuts)), [wanted])

    def test_the_empty_row(self):
        self.each_side_answers([], [0, 0])

    def test_each_cut_alone(self):
        self.each_side_answers([0], [2, 0])
        self.each_side_answers([1], [1, 1])
        self.each_side_answers([2], [0, 2])

    def test_mixed_rows(self):
        self.each_side_answers([0, 1], [3, 1])
        self.each_side_answers([1, 2], [1, 3])
        self.each_side_answers([2, 0], [2, 2])
        self.each_side_answers([0, 1, 2], [3, 3])
        self.each_side_answers([0, 0, 1, 0, 2], [7, 3])
        self.each_side_answers([2, 2, 1, 1, 2, 0], [4, 8])

    def test_rows_of_up_to_40_cuts(self):
        self.each_side_answers([0] * 40, [80, 0])
        self.each_side_answers([1] * 40, [40, 40])
        self.each_side_answers([2] * 40, [0, 80])
        self.each_side_answers([0, 1, 2] * 13, [39, 39])
        self.each_side_answers([0, 1, 2] * 13 + [0], [41, 39])

    def test_every_length(self):
        for length in range(51):
            cuts = ([0, 2, 1, 1, 0] * 10)[:length]
            self.each_side_answers(cuts, list(leads_to(cuts)) if length <= 40 else REFUSED)

    def test_rows_of_more_than_40_cuts_are_refused(self):
        for length in (41, 42, 49, 50):
            for cut in (0, 1, 2):
                self.each_side_answers([cut] * length, REFUSED)

    def test_numbers_above_2_are_refused_at_each_place(self):
        for number in (3, 4, GREATEST):
            self.each_side_answers([number], REFUSED)
            for length in (5, 40):
                for place in (0, length // 2, length - 1):
                    cuts = [1] * length
                    cuts[place] = number
                    self.each_side_answers(cuts, REFUSED)

    def test_rows_both_too_long_and_wrong_are_refused_once(self):
        for number in (3, GREATEST):
            for length in (41, 50):
                for place in (0, 20, length - 1):
                    cuts = [0] * length
                    cuts[place] = number
                    self.each_side_answers(cuts, REFUSED)

    def test_a_refused_row_is_read_whole(self):
        for side in SIDES:
            self.assertEqual(ask(side([0] * 50), side([2, 3, 0]), side([2])), [REFUSED, REFUSED, [0, 2]])


class WhatIsKept(unittest.TestCase):
    def test_each_row_becomes_its_own_side(self):
        panel = Panel()
        panel.begins(9)
        panel.left([0, 1])
        panel.right([2])
        self.assertEqual((panel.width, panel.left_side, panel.right_side), (9, [0, 1], [2]))
        panel.left([])
        self.assertEqual((panel.width, panel.left_side, panel.right_side), (9, [], [2]))
        panel.right([1, 1])
        self.assertEqual((panel.width, panel.left_side, panel.right_side), (9, [], [1, 1]))

    def test_a_refusal_changes_nothing(self):
        panel = Panel()
        panel.begins(9)
        panel.left([0, 1])
        panel.right([2])
        for cuts in ([3], [0, GREATEST], [0] * 41, [3] * 50):
            self.assertEqual(panel.left(cuts), REFUSED)
            self.assertEqual(panel.right(cuts), REFUSED)
            self.assertEqual((panel.width, panel.left_side, panel.right_side), (9, [0, 1], [2]))
