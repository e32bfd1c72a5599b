"""Promise 1, of check, and what it answers."""

import unittest

from tests.lines import GREATEST, REFUSED, ask, check, every_row, how_uneven, leads_to, wrong_rows


class Check(unittest.TestCase):
    def check_answers(self, depth, way_in, cuts, wanted):
        with self.subTest(depth=depth, way_in=way_in, cuts=cuts):
            self.assertEqual(ask(check(depth, way_in, cuts)), [wanted])

    def test_the_empty_row(self):
        self.check_answers(0, 0, [], [0])
        for depth, way_in in ((1, 0), (0, 1), (1, 1), (2, 0), (1000, 1000)):
            self.check_answers(depth, way_in, [], [-6, 0, 0])

    def test_even_rows(self):
        for count in (1, 2, 39, 40):
            self.check_answers(2 * count, 0, [0] * count, [0])
            self.check_answers(count, count, [1] * count, [0])
            self.check_answers(0, 2 * count, [2] * count, [0])

    def test_uneven_rows_found_by_hand(self):
        self.check_answers(3, 1, [0, 1], [2])
        self.check_answers(3, 1, [1, 0], [2])
        self.check_answers(2, 2, [0, 2], [4])
        self.check_answers(2, 2, [2, 0], [4])
        self.check_answers(4, 2, [1, 0, 1], [2])
        self.check_answers(4, 2, [0, 1, 1], [4])
        self.check_answers(4, 2, [1, 1, 0], [4])
        self.check_answers(4, 4, [0, 2, 2, 0], [8])
        self.check_answers(5, 3, [1, 0, 1, 1], [4])

    def test_rows_of_40_cuts(self):
        self.check_answers(40, 40, [0] * 20 + [2] * 20, [1600])
        self.check_answers(40, 40, [2] * 20 + [0] * 20, [1600])
        self.check_answers(40, 40, [0, 2] * 20, [80])
        self.check_answers(60, 20, [0, 1] * 20, [40])
        self.check_answers(79, 1, [0] * 39 + [1], [78])
        self.check_answers(79, 1, [1] + [0] * 39, [78])
        for shift in range(5):
            cuts = ([0, 2, 1, 1, 0] * 9)[shift:shift + 40]
            depth, way_in = leads_to(cuts)
            self.check_answers(depth, way_in, cuts, [how_uneven(cuts, depth, way_in)])

    def test_every_row_of_up_to_7_cuts(self):
        for cuts in every_row(7):
            depth, way_in = leads_to(cuts)
            self.check_answers(depth, way_in, cuts, [how_uneven(cuts, depth, way_in)])

    def test_rows_that_lead_elsewhere(self):
        for cuts in every_row(4):
            end = leads_to(cuts)
            for depth in range(10):
                for way_in in range(10):
                    if (depth, way_in) != end:
                        self.check_answers(depth, way_in, cuts, [-6, end[0], end[1]])

    def test_one_off(self):
        for depth, way_in in ((4, 1), (2, 1), (3, 0), (3, 2), (2, 0), (4, 2), (1, 3)):
            self.check_answers(depth, way_in, [0, 1], [-6, 3, 1])

    def test_multiples_of_the_way_lead_elsewhere(self):
        self.check_answers(2, 2, [1], [-6, 1, 1])
        self.check_answers(1, 1, [1, 1], [-6, 2, 2])
        self.check_answers(6, 2, [0, 1], [-6, 3, 1])


class Refused(unittest.TestCase):
    def test_up_to_1000_is_not_refused(self):
        for far in (999, 1000):
            for depth, way_in in ((far, 1), (3, far), (far, far)):
                self.assertEqual(ask(check(depth, way_in, [0, 1])), [[-6, 3, 1]])

    def test_above_1000_is_refused(self):
        for far in (1001, 1002, GREATEST):
            for depth, way_in in ((far, 1), (3, far), (far, far), (far, 1000), (1000, far), (far, 0), (0, far)):
                with self.subTest(depth=depth, way_in=way_in):
                    self.assertEqual(ask(check(depth, way_in, [0, 1])), [REFUSED])
                    self.assertEqual(ask(check(depth, way_in, [])), [REFUSED])

    def test_wrong_rows_are_refused(self):
        for cuts in wrong_rows():
            for depth, way_in in ((0, 0), (3, 1), (82, 0), (1000, 1000), (1001, GREATEST)):
                with self.subTest(depth=depth, way_in=way_in, cuts=cuts):
                    self.assertEqual(ask(check(depth, way_in, cuts)), [REFUSED])

    def test_too_many_cuts_are_refused_where_they_lead_too(self):
        self.assertEqual(ask(check(82, 0, [0] * 41)), [REFUSED])
        self.assertEqual(ask(check(50, 50, [1] * 50)), [REFUSED])

    def test_a_refused_check_is_read_whole(self):
        self.assertEqual(
            ask(check(1001, 0, [4, 4]), check(0, 0, [0] * 50), check(1, 1, [6, 3]), check(1, 1, [1])),
            [REFUSED, REFUSED, REFUSED, [0]])
