"""Point 4: wm_box, wm_may, wm_round, wm_area."""

import unittest

from tests.helper import (GREATEST, GREATEST_SIGNED, LEAST_SIGNED, all_of, area, box, box_round, land, last, may,
                          other, row, start, told)

THREE = [start(0, 4, 0, 4), other(10, 14, -2, 2), other(-7, -6, 8, 9)]


class AskBox(unittest.TestCase):

    def test_each_and_just_behind_the_last(self):
        self.assertEqual(told(*THREE, box(0), box(1), box(2), box(3))[3:],
                         [[0, 0, 4, 0, 4], [0, 10, 14, -2, 2], [0, -7, -6, 8, 9], [-2]])
        self.assertEqual(told(THREE[0], box(0), box(1))[1:], [[0, 0, 4, 0, 4], [-2]])

    def test_far_behind(self):
        for i in (4, 5, 1000, GREATEST):
            with self.subTest(i):
                self.assertEqual(last(*THREE, box(i)), [-2])

    def test_at_most_four(self):
        four = THREE + [other(100, 100, 100, 100)]
        self.assertEqual(told(*four, box(3), box(4))[-2:], [[0, 100, 100, 100, 100], [-2]])


class AskMay(unittest.TestCase):

    def test_edges_corners_and_just_outside(self):
        for x in range(9, 16):
            for y in range(-3, 4):
                with self.subTest(x=x, y=y):
                    inside = 10 <= x <= 14 and -2 <= y <= 2
                    self.assertEqual(last(*THREE, may(x, y)), [1 if inside else 0])

    def test_any_box_counts(self):
        self.assertEqual(told(*THREE, may(0, 0), may(4, 4), may(-7, 9), may(-6, 8))[3:], [[1]] * 4)

    def test_between_boxes_it_may_not(self):
        self.assertEqual(told(*THREE, may(5, 2), may(9, 0), may(-7, 0), may(0, 8))[3:], [[0]] * 4)

    def test_not_on_land(self):
        self.assertEqual(told(start(0, 2, 0, 2), land(1, 1, 1, 1), may(1, 1), may(0, 1))[2:], [[0], [1]])

    def test_farthest(self):
        for x in (LEAST_SIGNED, GREATEST_SIGNED, 0):
            for y in (LEAST_SIGNED, GREATEST_SIGNED):
                with self.subTest(x=x, y=y):
                    self.assertEqual(last(*THREE, may(x, y)), [0])


class AskRound(unittest.TestCase):

    def test_one(self):
        self.assertEqual(last(start(-3, 4, -5, 6), box_round()), [0, -3, 4, -5, 6])

    def test_each_side_of_another(self):
        self.assertEqual(last(*THREE, box_round()), [0, -7, 14, -2, 9])
        self.assertEqual(last(*THREE, other(2, 2, -50, 50), box_round()), [0, -7, 14, -50, 50])
        self.assertEqual(last(*THREE, other(-50, 50, 2, 2), box_round()), [0, -50, 50, -2, 9])

    def test_less_land(self):
        self.assertEqual(last(start(0, 9, 0, 9), land(0, 3, 0, 9), box_round()), [0, 4, 9, 0, 9])


class AskArea(unittest.TestCase):

    def test_one(self):
        self.assertEqual(last(start(5, 5, 5, 5), area()), [1, 1])
        self.assertEqual(last(start(-1, 3, 0, 1), area()), [1, 10])
        self.assertEqual(last(start(-1000000, 1000000, -1000000, 1000000), area()), [1, 2000001 * 2000001])

    def test_several(self):
        self.assertEqual(last(*THREE, area()), [3, 25 + 25 + 4])

    def test_over_one_another_each_counts(self):
        self.assertEqual(last(start(0, 10, 0, 4), other(0, 4, 0, 10), area()), [2, 55 + 55])
        self.assertEqual(last(start(*row(0, 9)), other(*row(5, 14)), other(*row(8, 20)), area()), [3, 10 + 10 + 13])


class AskingChangesNothing(unittest.TestCase):

    def test_all_is_as_it_was(self):
        asked = [box(0), box(3), may(0, 0), may(99, 99), box_round(), area()]
        self.assertEqual(all_of(*THREE, *asked), all_of(*THREE))
        self.assertEqual(told(*THREE, *asked, *asked)[9:], told(*THREE, *asked)[3:])


if __name__ == "__main__":
    unittest.main()
