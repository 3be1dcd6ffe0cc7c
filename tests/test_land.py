"""Point 2: wm_land, and how boxes are taken away, tidied and brought to four."""

import unittest

from tests.helper import (COVERED, ON_LAND, all_of, box, boxes, boxes_within, hours, land, last, may,
                          not_boxes_within, other, row, start, told)

FOUR_LANDS = [land(*row(x, x)) for x in (100, 200, 300, 400)]


class LandRefused(unittest.TestCase):

    def test_not_a_box_or_beyond(self):
        before = all_of(start(-9, 9, -9, 9))
        for bad in not_boxes_within(1000000):
            with self.subTest(bad):
                self.assertEqual(last(start(-9, 9, -9, 9), land(*bad)), [-22])
                self.assertEqual(all_of(start(-9, 9, -9, 9), land(*bad)), before)

    def test_four_are_there(self):
        begun = [start(0, 0, 0, 0)] + FOUR_LANDS
        self.assertEqual(told(*begun, land(*row(500, 500))), [[0], [0], [1], [2], [3], [-28]])
        self.assertEqual(all_of(*begun, land(*row(500, 500))), all_of(*begun))

    def test_nowhere(self):
        begun = [start(0, 10, 0, 10), land(0, 4, 0, 10)]
        for whole in [(5, 10, 0, 10), (-100, 100, -100, 100), (0, 10, 0, 10)]:
            with self.subTest(whole):
                self.assertEqual(last(*begun, land(*whole)), [-33])
                self.assertEqual(all_of(*begun, land(*whole)), all_of(*begun))
                self.assertEqual(last(*begun, land(*whole), land(20, 20, 20, 20)), [1])
                self.assertEqual(last(*begun, land(*whole), other(9, 9, 9, 9), may(9, 9)), [1])

    def test_nowhere_by_land_told_before(self):
        self.assertEqual(last(*COVERED, may(1, 0)), [1])
        self.assertEqual(last(*ON_LAND), [1])
        self.assertEqual(last(*ON_LAND, land(*row(5000, 5000))), [-33])

    def test_the_first_told_is_answered(self):
        begun = [start(0, 0, 0, 0)]
        self.assertEqual(last(*begun, *FOUR_LANDS, land(1, 0, 0, 0)), [-22])
        self.assertEqual(last(*begun, *FOUR_LANDS, land(0, 1000001, 0, 0)), [-22])
        self.assertEqual(last(*begun, land(0, 1000001, 0, 0)), [-22])
        self.assertEqual(last(*begun, *FOUR_LANDS, land(0, 0, 0, 0)), [-28])


class LandTold(unittest.TestCase):

    def test_edges_are_allowed(self):
        for good in boxes_within(1000000)[:4]:
            with self.subTest(good):
                self.assertEqual(last(start(0, 0, 0, 0), land(*good)), [0])

    def test_greatest_land(self):
        begun = start(-1000000, 1000000, -1000000, 1000000)
        self.assertEqual(boxes(begun, land(-1000000, 999999, -1000000, 1000000)),
                         [(1000000, 1000000, -1000000, 1000000)])

    def test_number(self):
        self.assertEqual(told(start(0, 0, 0, 0), *FOUR_LANDS), [[0], [0], [1], [2], [3]])

    def test_the_same_land_twice(self):
        self.assertEqual(told(start(0, 2, 0, 0), land(1, 1, 0, 0), land(1, 1, 0, 0)), [[0], [0], [1]])

    def left(self, *taken):
        return boxes(start(0, 10, 0, 10), land(*taken))

    def test_what_is_left_and_its_order(self):
        self.assertEqual(self.left(3, 5, 4, 6), [(0, 2, 0, 10), (6, 10, 0, 10), (3, 5, 0, 3), (3, 5, 7, 10)])

    def test_one_side_is_left(self):
        self.assertEqual(self.left(1, 10, 0, 10), [(0, 0, 0, 10)])
        self.assertEqual(self.left(-5, 9, -5, 15), [(10, 10, 0, 10)])
        self.assertEqual(self.left(-5, 15, 1, 15), [(0, 10, 0, 0)])
        self.assertEqual(self.left(0, 10, -5, 9), [(0, 10, 10, 10)])

    def test_at_corners(self):
        self.assertEqual(self.left(-1, 2, -1, 2), [(3, 10, 0, 10), (0, 2, 3, 10)])
        self.assertEqual(self.left(8, 11, -1, 2), [(0, 7, 0, 10), (8, 10, 3, 10)])
        self.assertEqual(self.left(-1, 2, 8, 11), [(3, 10, 0, 10), (0, 2, 0, 7)])
        self.assertEqual(self.left(8, 11, 8, 11), [(0, 7, 0, 10), (8, 10, 0, 7)])

    def test_right_across(self):
        self.assertEqual(self.left(4, 6, -9, 19), [(0, 3, 0, 10), (7, 10, 0, 10)])
        self.assertEqual(self.left(-9, 19, 4, 6), [(0, 10, 0, 3), (0, 10, 7, 10)])

    def test_just_outside_and_on_the_edge(self):
        for outside in [(11, 20, 0, 10), (-9, -1, 0, 10), (0, 10, 11, 20), (0, 10, -9, -1)]:
            with self.subTest(outside):
                self.assertEqual(self.left(*outside), [(0, 10, 0, 10)])
        self.assertEqual(self.left(10, 20, 10, 20), [(0, 9, 0, 10), (10, 10, 0, 9)])

    def test_box_by_box_in_their_order(self):
        begun = [start(*row(10, 14)), other(*row(0, 4))]
        self.assertEqual(boxes(*begun, land(*row(2, 12))), [row(13, 14), row(0, 1)])
        self.assertEqual(boxes(*begun, land(*row(2, 2)), land(*row(12, 12))),
                         [row(10, 11), row(13, 14), row(0, 1), row(3, 4)])

    def test_pieces_are_tidied(self):
        begun = [start(0, 10, 0, 4), other(0, 4, 0, 10)]
        # What is left of the one that is cut lies all in the other.
        self.assertEqual(boxes(*begun, land(5, 10, 0, 4)), [(0, 4, 0, 10)])
        self.assertEqual(boxes(*begun, land(0, 4, 5, 10)), [(0, 10, 0, 4)])

    def test_land_told_before_is_taken_away_again(self):
        self.assertEqual(boxes(*COVERED), [row(100, 100), row(200, 200), row(300, 300), row(0, 4)])
        self.assertEqual(boxes(*COVERED, land(*row(200, 200))),
                         [row(100, 100), row(300, 300), row(0, 0), row(2, 4)])


class AtMostFour(unittest.TestCase):

    def others(self, first, *more):
        return boxes(start(*first), *[other(*one) for one in more])

    def test_four_stay(self):
        apart = [row(x, x) for x in (0, 10, 20, 30)]
        self.assertEqual(self.others(*apart), apart)

    def test_five_like_ones(self):
        apart = [row(x, x) for x in (0, 10, 20, 30, 40)]
        self.assertEqual(self.others(*apart), [row(20, 20), row(30, 30), row(40, 40), row(0, 10)])

    def test_the_nearest_pair(self):
        apart = [row(x, x) for x in (0, 10, 20, 30, 39)]
        self.assertEqual(self.others(*apart), [row(0, 0), row(10, 10), row(20, 20), row(30, 39)])

    def test_like_pairs_by_the_lesser_place(self):
        # The first and the last are as near as the second and the third.
        apart = [row(0, 0), row(100, 100), row(110, 110), row(1000, 1000), row(10, 10)]
        self.assertEqual(self.others(*apart), [row(100, 100), row(110, 110), row(1000, 1000), row(0, 10)])

    def test_like_pairs_by_the_greater_place(self):
        apart = [row(0, 0), row(1000, 1000), row(10, 10), row(-10, -10), row(2000, 2000)]
        self.assertEqual(self.others(*apart), [row(1000, 1000), row(-10, -10), row(2000, 2000), row(0, 10)])

    def test_how_much_and_not_how_far(self):
        # The tall ones are nearer to one another, but the box round them is greater by more: 33 against 19.
        tall = [(0, 0, 0, 10), (4, 4, 0, 10)]
        far = [(100, 100, 100, 100), (120, 120, 100, 100)]
        self.assertEqual(self.others(*tall, *far, (900, 900, 900, 900)),
                         [*tall, (900, 900, 900, 900), (100, 120, 100, 100)])

    def test_by_how_much_and_not_how_great(self):
        # The box round the great ones is far the greater one, but greater than both by nothing.
        small = [row(0, 0), row(3, 3)]
        great = [(100, 199, 0, 99), (200, 299, 0, 99)]
        self.assertEqual(self.others(*small, *great, row(9000, 9000)), [*small, row(9000, 9000), (100, 299, 0, 99)])

    def test_boxes_over_one_another_are_less_than_nothing(self):
        beside = [row(0, 0), row(1, 1)]
        over = [(100, 110, 0, 10), (101, 111, 1, 11)]
        self.assertEqual(self.others(*beside, *over, row(900, 900)), [*beside, row(900, 900), (100, 111, 0, 11)])

    def test_tidied_again(self):
        # The box round the two great ones holds the first, too, in one of its corners.
        apart = [(15, 15, 0, 0), (0, 10, 0, 10), (900, 900, 0, 0), (5, 15, 5, 15), (990, 990, 990, 990)]
        self.assertEqual(self.others(*apart), [(900, 900, 0, 0), (990, 990, 990, 990), (0, 15, 0, 15)])

    def test_seven_of_land(self):
        begun = [start(0, 10, 0, 10), land(3, 5, 4, 6), land(8, 8, 5, 5)]
        self.assertEqual(boxes(*begun), [(0, 2, 0, 10), (3, 5, 0, 3), (3, 5, 7, 10), (6, 10, 0, 10)])

    def test_five_of_land_with_like_pairs(self):
        begun = [start(*row(0, 10))] + [land(*row(x, x)) for x in (1, 3, 5)]
        self.assertEqual(boxes(*begun), [row(0, 0), row(2, 2), row(4, 4), row(6, 10)])
        self.assertEqual(boxes(*begun, land(*row(7, 7))), [row(4, 4), row(6, 6), row(8, 10), row(0, 2)])

    def test_of_the_same_boxes_the_last_stays(self):
        self.assertEqual(self.others(row(0, 4), row(10, 14), row(0, 4)), [row(10, 14), row(0, 4)])

    def test_a_box_in_one_before_it_or_behind_it(self):
        self.assertEqual(self.others(row(0, 4), row(10, 14), row(1, 3)), [row(0, 4), row(10, 14)])
        self.assertEqual(self.others(row(1, 3), row(10, 14), row(0, 4)), [row(10, 14), row(0, 4)])

    def test_never_a_fifth(self):
        begun = [start(*row(0, 0))] + [other(*row(x, x)) for x in (7, 90, 300, 5000, 20000)]
        for calls in (begun, begun + [hours(1)]):
            self.assertEqual(last(*calls, box(3))[0], 0)
            self.assertEqual(last(*calls, box(4)), [-2])


if __name__ == "__main__":
    unittest.main()
