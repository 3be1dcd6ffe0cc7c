"""Point 4: wm_box, wm_may, wm_round, wm_area; point 5: wm_best, wm_centre, wm_widest."""

import unittest

from tests.helper import (ASKED, GREATEST, GREATEST_SIGNED, LEAST_SIGNED, all_of, area, back, best, box, box_round,
                          centre, current, hours, land, last, may, other, reaches, row, searched, sighted, start, state,
                          told, widest)

THREE = [start(0, 4, 0, 4), other(10, 14, -2, 2), other(-7, -6, 8, 9)]


class AskBox(unittest.TestCase):

    def test_each_and_just_behind_the_last(self):
        self.assertEqual(told(*THREE, box(0), box(1), box(2), box(3))[3:],
                         [[0, 0, 4, 0, 4], [0, 10, 14, -2, 2], [0, -7, -6, 8, 9], [-2]])
        self.assertEqual(told(THREE[0], box(0), box(1))[1:], [[0, 0, 4, 0, 4], [-2]])

    def test_far_behind(self):
        for i in (4, 5, 1000, GREATEST):
            with self.subTest(i):
                self.assertEqual(last(*THREE, box(i)), [-2])

    def test_at_most_four(self):
        four = THREE + [other(100, 100, 100, 100)]
        self.assertEqual(told(*four, box(3), box(4))[-2:], [[0, 100, 100, 100, 100], [-2]])


class AskMay(unittest.TestCase):

    def test_edges_corners_and_just_outside(self):
        for x in range(9, 16):
            for y in range(-3, 4):
                with self.subTest(x=x, y=y):
                    inside = 10 <= x <= 14 and -2 <= y <= 2
                    self.assertEqual(last(*THREE, may(x, y)), [1 if inside else 0])

    def test_any_box_counts(self):
        self.assertEqual(told(*THREE, may(0, 0), may(4, 4), may(-7, 9), may(-6, 8))[3:], [[1]] * 4)

    def test_between_boxes_it_may_not(self):
        self.assertEqual(told(*THREE, may(5, 2), may(9, 0), may(-7, 0), may(0, 8))[3:], [[0]] * 4)

    def test_not_on_land(self):
        self.assertEqual(told(start(0, 2, 0, 2), land(1, 1, 1, 1), may(1, 1), may(0, 1))[2:], [[0], [1]])

    def test_farthest(self):
        for x in (LEAST_SIGNED, GREATEST_SIGNED, 0):
            for y in (LEAST_SIGNED, GREATEST_SIGNED):
                with self.subTest(x=x, y=y):
                    self.assertEqual(last(*THREE, may(x, y)), [0])


class AskRound(unittest.TestCase):

    def test_one(self):
        self.assertEqual(last(start(-3, 4, -5, 6), box_round()), [0, -3, 4, -5, 6])

    def test_each_side_of_another(self):
        self.assertEqual(last(*THREE, box_round()), [0, -7, 14, -2, 9])
        self.assertEqual(last(*THREE, other(2, 2, -50, 50), box_round()), [0, -7, 14, -50, 50])
        self.assertEqual(last(*THREE, other(-50, 50, 2, 2), box_round()), [0, -50, 50, -2, 9])

    def test_less_land(self):
        self.assertEqual(last(start(0, 9, 0, 9), land(0, 3, 0, 9), box_round()), [0, 4, 9, 0, 9])


class AskArea(unittest.TestCase):

    def test_one(self):
        self.assertEqual(last(start(5, 5, 5, 5), area()), [1, 1])
        self.assertEqual(last(start(-1, 3, 0, 1), area()), [1, 10])
        self.assertEqual(last(start(-1000000, 1000000, -1000000, 1000000), area()), [1, 2000001 * 2000001])

    def test_several(self):
        self.assertEqual(last(*THREE, area()), [3, 25 + 25 + 4])

    def test_over_one_another_each_counts(self):
        self.assertEqual(last(start(0, 10, 0, 4), other(0, 4, 0, 10), area()), [2, 55 + 55])
        self.assertEqual(last(start(*row(0, 9)), other(*row(5, 14)), other(*row(8, 20)), area()), [3, 10 + 10 + 13])


class AskBest(unittest.TestCase):

    def of(self, first, *more):
        return last(start(*first), *[other(*one) for one in more], best())

    def test_one(self):
        self.assertEqual(self.of((0, 4, 1, 2)), [0, 10])
        self.assertEqual(self.of((-7, -7, -7, -7)), [0, 1])
        self.assertEqual(self.of((-1000000, 1000000, -1000000, 1000000)), [0, 2000001 * 2000001])

    def test_the_least_in_each_place(self):
        small, great, greater, greatest = (0, 1, 0, 1), (10, 12, 0, 1), (20, 22, 0, 2), (30, 33, 0, 3)
        self.assertEqual(self.of(small, great, greater, greatest), [0, 4])
        self.assertEqual(self.of(great, small, greatest, greater), [1, 4])
        self.assertEqual(self.of(greatest, greater, small, great), [2, 4])
        self.assertEqual(self.of(greatest, greater, great, small), [3, 4])

    def test_of_like_ones_the_first(self):
        self.assertEqual(self.of(row(0, 0), row(9, 9), row(5, 5)), [0, 1])
        self.assertEqual(self.of(row(0, 6), row(20, 25), (30, 32, 0, 1), (40, 41, 0, 2)), [1, 6])
        self.assertEqual(self.of(row(0, 6), row(20, 26), (30, 32, 0, 1), (40, 41, 0, 2)), [2, 6])

    def test_by_how_much_and_not_how_wide(self):
        self.assertEqual(self.of((0, 0, 0, 99), (10, 19, 0, 1)), [1, 20])
        self.assertEqual(self.of(row(0, 99), (200, 201, 0, 9)), [1, 20])

    def test_behind_a_change(self):
        self.assertEqual(last(start(*row(0, 9)), other(*row(20, 24)), searched(*row(3, 9)), best()), [0, 3])
        self.assertEqual(last(start(0, 2, 0, 2), land(1, 1, 1, 1), best()), [2, 1])


class AskCentre(unittest.TestCase):

    def test_exact(self):
        self.assertEqual(last(start(0, 4, 10, 20), centre()), [0, 2, 15])
        self.assertEqual(last(start(-9, -9, 7, 7), centre()), [0, -9, 7])
        self.assertEqual(last(start(-1000000, 1000000, -1000000, 1000000), centre()), [0, 0, 0])

    def test_rounded_down(self):
        self.assertEqual(last(start(0, 3, 4, 7), centre()), [0, 1, 5])
        self.assertEqual(last(start(0, 1, 2, 2), centre()), [0, 0, 2])

    def test_below_0_rounded_down(self):
        self.assertEqual(last(start(-3, 0, -7, -4), centre()), [0, -2, -6])
        self.assertEqual(last(start(-2, 1, -1, 0), centre()), [0, -1, -1])
        self.assertEqual(last(start(-1000000, -999999, -4, 3), centre()), [0, -1000000, -1])

    def test_each_way_by_its_own(self):
        self.assertEqual(last(start(-3, 0, 0, 3), centre()), [0, -2, 1])
        self.assertEqual(last(start(0, 3, -3, 0), centre()), [0, 1, -2])

    def test_of_the_box_round_all(self):
        self.assertEqual(last(*THREE, centre()), [0, 3, 3])
        # The middle of all may lie where it may not be.
        self.assertEqual(last(start(*row(0, 0)), other(*row(100, 101)), centre()), [0, 50, 0])


class AskWidest(unittest.TestCase):

    def test_one(self):
        self.assertEqual(last(start(5, 5, 5, 5), widest()), [0, 0, 0])
        self.assertEqual(last(start(0, 4, -1, 0), widest()), [0, 4, 1])
        self.assertEqual(last(start(-9, -3, -8, 8), widest()), [0, 6, 16])
        self.assertEqual(last(start(-1000000, 1000000, -1000000, 1000000), widest()), [0, 2000000, 2000000])

    def test_of_the_box_round_all(self):
        self.assertEqual(last(*THREE, widest()), [0, 21, 11])
        self.assertEqual(last(start(0, 9, 0, 0), other(0, 0, 20, 99), widest()), [0, 9, 99])

    def test_behind_hours(self):
        self.assertEqual(last(start(0, 4, 0, 4), current(-1, 2, 3, 3), hours(10), widest()), [0, 34, 4])


class AskingChangesNothing(unittest.TestCase):

    def test_all_is_as_it_was(self):
        asked = ASKED + [may(0, 0), may(99, 99), reaches(0, 0, 0, 0), reaches(-900, -900, 0, 0), state()]
        for begun in (THREE, [*THREE, current(-1, 1, 0, 2), hours(1), sighted(-9, 9, -9, 9), back()]):
            self.assertEqual(all_of(*begun, *asked), all_of(*begun))
            self.assertEqual(told(*begun, *asked, *asked)[len(begun) + len(asked):], told(*begun, *asked)[len(begun):])


if __name__ == "__main__":
    unittest.main()
