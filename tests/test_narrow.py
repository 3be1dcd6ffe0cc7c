"""Point 3: wm_sighted, wm_searched, wm_other."""

import unittest

from tests.helper import (COVERED, ON_LAND, all_of, box, boxes, boxes_within, land, last, may, not_boxes_within,
                          other, row, searched, sighted, start, told)

TWO = [start(0, 4, 0, 4), other(10, 14, 0, 4)]
CROSSED = [start(0, 10, 0, 4), other(0, 4, 0, 10)]


class Refused(unittest.TestCase):

    def refused(self, begun, call, number):
        self.assertEqual(last(*begun, call), [number])
        self.assertEqual(all_of(*begun, call), all_of(*begun))

    def test_not_a_box_or_beyond(self):
        for name, tell, limit in [("sighted", sighted, 3000000), ("searched", searched, 3000000),
                                  ("other", other, 1000000)]:
            for bad in not_boxes_within(limit):
                with self.subTest(name, bad=bad):
                    self.refused(TWO, tell(*bad), -22)

    def test_sighted_where_it_may_not_be(self):
        for outside in [(5, 9, 0, 4), (0, 14, 5, 9), (0, 14, -9, -1), (15, 99, 0, 4), (-9, -1, 0, 4),
                        (3000000, 3000000, 3000000, 3000000)]:
            with self.subTest(outside):
                self.refused(TWO, sighted(*outside), -33)

    def test_searched_everywhere(self):
        for whole in [(0, 14, 0, 4), (-3000000, 3000000, -3000000, 3000000)]:
            with self.subTest(whole):
                self.refused(TWO, searched(*whole), -33)

    def test_other_all_land(self):
        begun = TWO + [land(100, 104, 0, 9), land(105, 109, 0, 9)]
        for dry in [(100, 104, 0, 9), (100, 109, 0, 9), (103, 106, 2, 2), (109, 109, 9, 9)]:
            with self.subTest(dry):
                self.refused(begun, other(*dry), -33)

    def test_the_first_told_is_answered(self):
        self.assertEqual(last(*TWO, sighted(3000001, 3000001, 0, 0)), [-22])
        self.assertEqual(last(*TWO, searched(-3000001, 3000001, -9, 9)), [-22])
        shore = TWO + [land(900000, 1000000, 0, 0)]
        self.assertEqual(last(*shore, other(1000001, 1000001, 0, 0)), [-22])
        self.assertEqual(last(*shore, other(950000, 940000, 0, 0)), [-22])
        self.assertEqual(last(*shore, other(1000000, 1000000, 0, 0)), [-33])


class Sighted(unittest.TestCase):

    def test_edges_are_allowed(self):
        for good in boxes_within(3000000)[4:]:
            with self.subTest(good):
                self.assertEqual(told(start(0, 0, 0, 0), sighted(*good), box(0)), [[0], [1], [0, 0, 0, 0, 0]])

    def test_of_each_box_what_is_in_it(self):
        self.assertEqual(last(*TWO, sighted(3, 11, 2, 8)), [2])
        self.assertEqual(boxes(*TWO, sighted(3, 11, 2, 8)), [(3, 4, 2, 4), (10, 11, 2, 4)])

    def test_one_box_is_left(self):
        self.assertEqual(last(*TWO, sighted(4, 9, 4, 9)), [1])
        self.assertEqual(boxes(*TWO, sighted(4, 9, 4, 9)), [(4, 4, 4, 4)])
        self.assertEqual(boxes(*TWO, sighted(5, 10, -9, 0)), [(10, 10, 0, 0)])

    def test_all_of_it(self):
        self.assertEqual(boxes(*TWO, sighted(-9, 99, -9, 99)), [(0, 4, 0, 4), (10, 14, 0, 4)])

    def test_tidy(self):
        for within, left in [((0, 4, 0, 4), [(0, 4, 0, 4)]), ((0, 3, 0, 8), [(0, 3, 0, 8)]),
                             ((0, 8, 0, 4), [(0, 8, 0, 4)]), ((0, 5, 0, 5), [(0, 5, 0, 4), (0, 4, 0, 5)])]:
            with self.subTest(within):
                self.assertEqual(last(*CROSSED, sighted(*within)), [len(left)])
                self.assertEqual(boxes(*CROSSED, sighted(*within)), left)

    def test_land_stays_where_it_was_covered(self):
        self.assertEqual(boxes(*COVERED, sighted(*row(1, 100))), [row(100, 100), row(1, 4)])


class Searched(unittest.TestCase):

    def test_edges_are_allowed(self):
        for good in [(-3000000, 3000000, -3000000, -1), (-3000000, 3000000, 1, 3000000),
                     (3000000, 3000000, -3000000, -3000000)]:
            with self.subTest(good):
                self.assertEqual(told(start(0, 0, 0, 0), searched(*good), box(0)), [[0], [1], [0, 0, 0, 0, 0]])

    def test_each_box_less_that(self):
        self.assertEqual(last(*TWO, searched(4, 10, 0, 4)), [2])
        self.assertEqual(boxes(*TWO, searched(4, 10, 0, 4)), [(0, 3, 0, 4), (11, 14, 0, 4)])
        self.assertEqual(boxes(*TWO, searched(0, 12, 0, 4)), [(13, 14, 0, 4)])
        self.assertEqual(boxes(*TWO, searched(5, 9, 0, 4)), [(0, 4, 0, 4), (10, 14, 0, 4)])

    def test_order(self):
        self.assertEqual(last(start(0, 2, 0, 2), searched(1, 1, 1, 1)), [4])
        self.assertEqual(boxes(start(0, 2, 0, 2), searched(1, 1, 1, 1)),
                         [(0, 0, 0, 2), (2, 2, 0, 2), (1, 1, 0, 0), (1, 1, 2, 2)])

    def test_at_most_four(self):
        begun = [start(0, 2, 0, 2), other(100, 100, 100, 100), searched(1, 1, 1, 1)]
        self.assertEqual(last(*begun), [4])
        self.assertEqual(boxes(*begun), [(0, 0, 0, 2), (2, 2, 0, 2), (100, 100, 100, 100), (1, 1, 0, 2)])
        self.assertEqual(last(*begun, may(1, 1)), [1])

    def test_at_most_four_pair_behind_pair(self):
        # Both tall ones are cut in two, and both pairs made one again, the first pair first.
        begun = [start(0, 0, 0, 2), other(100, 100, 0, 2), other(*row(500, 500)), other(*row(900, 900)),
                 searched(0, 200, 1, 1)]
        self.assertEqual(last(*begun), [4])
        self.assertEqual(boxes(*begun), [row(500, 500), row(900, 900), (0, 0, 0, 2), (100, 100, 0, 2)])

    def test_tidy(self):
        # Of the second box only what lies south is left, and that is in the first.
        self.assertEqual(last(*CROSSED, searched(0, 4, 5, 10)), [1])
        self.assertEqual(boxes(*CROSSED, searched(0, 4, 5, 10)), [(0, 10, 0, 4)])
        self.assertEqual(boxes(*CROSSED, searched(5, 10, 0, 4)), [(0, 4, 0, 10)])

    def test_a_search_is_no_land(self):
        self.assertEqual(last(*TWO, searched(100, 109, 0, 0), other(100, 109, 0, 0)), [3])
        self.assertEqual(told(*TWO, searched(0, 0, 0, 0), land(50, 50, 50, 50))[-1], [0])

    def test_land_stays_where_it_was_covered(self):
        self.assertEqual(boxes(*COVERED, searched(*row(200, 200))), [row(100, 100), row(300, 300), row(0, 4)])


class Other(unittest.TestCase):

    def test_edges_are_allowed(self):
        for good in boxes_within(1000000):
            with self.subTest(good):
                self.assertEqual(boxes(start(*good), other(*good)), [good])

    def test_behind_the_others(self):
        self.assertEqual(last(*TWO, other(-9, -8, 0, 0)), [3])
        self.assertEqual(boxes(*TWO, other(-9, -8, 0, 0)), [(0, 4, 0, 4), (10, 14, 0, 4), (-9, -8, 0, 0)])

    def test_land_is_taken_away(self):
        begun = TWO + [land(102, 109, 0, 9)]
        self.assertEqual(last(*begun, other(100, 104, 0, 9)), [3])
        self.assertEqual(boxes(*begun, other(100, 104, 0, 9)), [(0, 4, 0, 4), (10, 14, 0, 4), (100, 101, 0, 9)])

    def test_land_is_taken_away_from_all(self):
        self.assertEqual(boxes(*ON_LAND), [row(1, 1)])
        self.assertEqual(last(*ON_LAND, other(*row(7, 9))), [1])
        self.assertEqual(boxes(*ON_LAND, other(*row(7, 9))), [row(7, 9)])

    def test_tidy(self):
        self.assertEqual(last(*TWO, other(1, 2, 3, 4)), [2])
        self.assertEqual(boxes(*TWO, other(1, 2, 3, 4)), [(0, 4, 0, 4), (10, 14, 0, 4)])
        self.assertEqual(boxes(*TWO, other(0, 4, 0, 4)), [(10, 14, 0, 4), (0, 4, 0, 4)])
        self.assertEqual(boxes(*TWO, other(0, 14, 0, 4)), [(0, 14, 0, 4)])

    def test_at_most_four(self):
        begun = TWO + [other(*row(x, x)) for x in (100, 110, 120)]
        self.assertEqual(last(*begun), [4])
        self.assertEqual(boxes(*begun), [(0, 4, 0, 4), (10, 14, 0, 4), row(120, 120), row(100, 110)])


if __name__ == "__main__":
    unittest.main()
