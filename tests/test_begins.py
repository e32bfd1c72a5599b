"""Promise 1, of begins."""

import unittest

from netcuts.panel import Panel
from tests.lines import GREATEST, REFUSED, ask, begins


class Begins(unittest.TestCase):
    def test_widths_up_to_1000_are_answered_0(self):
        for width in (0, 1, 2, 999, 1000):
            with self.subTest(width=width):
                self.assertEqual(ask(begins(width)), [[0]])

    def test_widths_above_1000_are_refused(self):
        for width in (1001, 1002, GREATEST):
            with self.subTest(width=width):
                self.assertEqual(ask(begins(width)), [REFUSED])

    def test_a_new_panel_is_0_wide_with_empty_sides(self):
        panel = Panel()
        self.assertEqual((panel.width, panel.left_side, panel.right_side), (0, [], []))

    def test_it_sets_the_width_and_empties_both_sides(self):
        panel = Panel()
        panel.left([0, 1])
        panel.right([2])
        self.assertEqual(panel.begins(1000), [0])
        self.assertEqual((panel.width, panel.left_side, panel.right_side), (1000, [], []))

    def test_a_refusal_changes_nothing(self):
        panel = Panel()
        panel.begins(7)
        panel.left([0, 1])
        panel.right([2])
        for width in (1001, GREATEST):
            self.assertEqual(panel.begins(width), REFUSED)
            self.assertEqual((panel.width, panel.left_side, panel.right_side), (7, [0, 1], [2]))
