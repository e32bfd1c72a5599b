"""Promise 2, of best."""

import unittest

from tests.lines import GREATEST, NO_ROW, REFUSED, ask, best, best_by_search


class Best(unittest.TestCase):
    def best_answers(self, depth, way_in, wanted):
        with self.subTest(depth=depth, way_in=way_in):
            self.assertEqual(ask(best(depth, way_in)), [wanted])

    def test_nowhere_leads_the_empty_row(self):
        self.best_answers(0, 0, [0, 1])

    def test_straight_down_and_straight_in(self):
        for cuts in range(1, 6):
            self.best_answers(2 * cuts, 0, [0, 1] + [0] * cuts)
            self.best_answers(0, 2 * cuts, [0, 1] + [2] * cuts)

    def test_odd_straight_ways_have_no_row(self):
        for way in (1, 3, 5, 7, 9):
            self.best_answers(way, 0, NO_ROW)
            self.best_answers(0, way, NO_ROW)

    def test_goals_found_by_hand(self):
        self.best_answers(1, 1, [0, 1, 1])
        self.best_answers(2, 2, [0, 1, 1, 1])
        self.best_answers(3, 1, [2, 2, 0, 1])
        self.best_answers(1, 3, [2, 2, 1, 2])
        self.best_answers(4, 2, [2, 1, 1, 0, 1])
        self.best_answers(2, 4, [2, 1, 1, 2, 1])
        self.best_answers(10, 10, [0, 1] + [1] * 10)

    def test_no_row_leads_there(self):
        for depth, way_in in ((1, 0), (0, 1), (2, 1), (1, 2), (9, 10), (10, 9), (3, 4)):
            self.best_answers(depth, way_in, NO_ROW)

    def test_above_10_is_refused(self):
        for far in (11, 12, GREATEST):
            for near in (0, 1, 10):
                self.best_answers(far, near, REFUSED)
                self.best_answers(near, far, REFUSED)
            self.best_answers(far, far, REFUSED)
        self.best_answers(11, GREATEST, REFUSED)

    def test_all_goals_against_every_row(self):
        for depth in range(11):
            for way_in in range(11):
                self.best_answers(depth, way_in, best_by_search(depth, way_in))
