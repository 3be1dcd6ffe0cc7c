"""Point 1: wm_start."""

import unittest

from tests.helper import (GREATEST, again, all_of, area, back, box, boxes, boxes_within, current, hours, land, lands,
                          last, may, not_boxes_within, other, sighted, start, state, told, told_now, wind)

# With changes that were taken back, too.
BUSY = [start(0, 10, 0, 10, 3, 7), land(3, 5, 4, 6), current(-1, 2, -3, 4), wind(-33, 10, 10, 33), hours(2),
        sighted(0, 10, 0, 10), current(7, 7, 7, 7), land(50, 60, 50, 60), back(), back()]


def bad_starts():
    wrong = [start(*bad, 0, 0) for bad in not_boxes_within(1000000)]
    shares = [(1, 0), (20, 19), (GREATEST, 20), (0, 21), (21, 21), (20, 21), (0, GREATEST), (GREATEST, GREATEST)]
    return wrong + [start(0, 0, 0, 0, lo, hi) for lo, hi in shares]


class StartRefused(unittest.TestCase):

    def test_each_reason(self):
        for bad in bad_starts():
            with self.subTest(bad):
                self.assertEqual(told(bad), [[-22]])

    def test_all_stays_as_it_was(self):
        before = all_of(*BUSY)
        for bad in bad_starts():
            with self.subTest(bad):
                self.assertEqual(all_of(*BUSY, bad), before)

    def test_refused_ahead_of_the_first(self):
        bad = bad_starts()
        self.assertEqual(told(*bad, start(1, 2, 3, 4), box(0)), [[-22]] * len(bad) + [[0], [0, 1, 2, 3, 4]])


class StartAllowed(unittest.TestCase):

    def test_edges(self):
        for good in boxes_within(1000000):
            with self.subTest(good):
                self.assertEqual(told(start(*good), box(0), box(1)), [[0], [0, *good], [-2]])

    def test_shares(self):
        for lo, hi in [(0, 0), (0, 20), (20, 20), (7, 7), (19, 20)]:
            with self.subTest(lo=lo, hi=hi):
                self.assertEqual(told(start(5, 5, 5, 5, lo, hi)), [[0]])

    def test_all_is_as_at_first(self):
        for anew in [start(-4, 4, -2, 2, 0, 20), start(7, 7, 7, 7, 5, 5)]:
            with self.subTest(anew):
                self.assertEqual(last(*BUSY, anew), [0])
                self.assertEqual(all_of(*BUSY, anew), all_of(anew))

    def test_no_changes(self):
        self.assertEqual(last(*BUSY, state())[1:], [4, 1, 1, 5, 2])
        anew = start(7, 7, 7, 7, 5, 5)
        self.assertEqual(told(*BUSY, anew, state(), back(), again(), state())[-4:],
                         [[0, 1, 0, 0, 0, 0], [-2], [-2], [0, 1, 0, 0, 0, 0]])
        self.assertEqual(told(anew, lands(), told_now())[1:], [[0, 5, 5], [0] * 9])

    def test_at_first(self):
        begun = start(3, 5, 4, 6, 1, 2)
        self.assertEqual(boxes(*BUSY, begun), [(3, 5, 4, 6)])
        self.assertEqual(last(*BUSY, begun, current(1, 1, 1, 1)), [0, 0, 0, 0, 0])
        self.assertEqual(last(*BUSY, begun, wind(1, 1, 1, 1)), [0, 0, 0, 0, 0])
        self.assertEqual(last(*BUSY, begun, hours(1)), [1, 1])
        self.assertEqual(last(*BUSY, begun, land(4, 4, 4, 4)), [0])

    def test_no_land_is_left(self):
        begun = start(100, 100, 100, 100)
        self.assertEqual(last(*BUSY, begun, other(3, 5, 4, 6)), [2])
        self.assertEqual(last(*BUSY, begun, other(3, 5, 4, 6), may(4, 5)), [1])

    def test_shares_are_the_new_ones(self):
        blown = [start(0, 0, 0, 0, 20, 20), wind(100, 100, 0, 0), start(0, 0, 0, 0, 1, 2), wind(100, 100, 0, 0)]
        self.assertEqual(boxes(*blown, hours(1)), [(1, 2, 0, 0)])

    def test_hour_begins_anew(self):
        long = [start(0, 0, 0, 0)] + [hours(24)] * 41 + [hours(16)]
        self.assertEqual(told(*long, hours(1), start(0, 0, 0, 0), hours(24), area())[-4:],
                         [[-75], [0], [24, 1], [1, 1]])


if __name__ == "__main__":
    unittest.main()
