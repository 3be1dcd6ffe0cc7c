"""Point 6: wm_lands, wm_shore, wm_told."""

import unittest

from tests.helper import (GREATEST, back, current, hours, land, lands, last, other, row, shore, start, told, told_now,
                          wind)

FOUR = [(0, 10, -3, -1), (100, 100, 100, 100), (-1000000, -999999, 999999, 1000000), (5, 6, 7, 8)]
BEGUN = [start(0, 0, 0, 0, 3, 17)]


class AskLands(unittest.TestCase):

    def test_none(self):
        self.assertEqual(last(*BEGUN, lands()), [0, 3, 17])

    def test_how_many(self):
        line = list(BEGUN)
        for many, one in enumerate(FOUR):
            self.assertEqual(last(*line, lands()), [many, 3, 17])
            line.append(land(*one))
        self.assertEqual(last(*line, lands()), [4, 3, 17])
        self.assertEqual(last(*line, land(*row(500, 500)), lands()), [4, 3, 17])

    def test_refused_ones_are_none(self):
        for refused in (land(1, 0, 0, 0), land(0, 0, 0, 0), land(0, 1000001, 0, 0)):
            with self.subTest(refused):
                self.assertEqual(last(*BEGUN, land(*FOUR[0]), refused, lands()), [1, 3, 17])

    def test_lo_and_hi(self):
        for lo, hi in [(0, 0), (0, 20), (20, 20), (7, 8)]:
            with self.subTest(lo=lo, hi=hi):
                self.assertEqual(last(*BEGUN, land(*FOUR[0]), start(0, 0, 0, 0, lo, hi), lands()), [0, lo, hi])
        self.assertEqual(last(*BEGUN, start(0, 0, 0, 0, 0, 21), lands()), [0, 3, 17])


class AskShore(unittest.TestCase):

    def test_none(self):
        for i in (0, 1, 4, GREATEST):
            with self.subTest(i):
                self.assertEqual(last(*BEGUN, shore(i)), [-2])

    def test_each_and_just_behind_the_last(self):
        line = BEGUN + [land(*one) for one in FOUR]
        self.assertEqual(told(*line, *[shore(i) for i in range(4)])[5:], [[0, *one] for one in FOUR])
        for i in (4, 5, 1000, GREATEST):
            with self.subTest(i):
                self.assertEqual(last(*line, shore(i)), [-2])
        self.assertEqual(told(*line[:3], shore(1), shore(2))[3:], [[0, *FOUR[1]], [-2]])

    def test_as_it_was_told(self):
        # Land over land, and beyond the boxes, stays whole; it doesn't drift either.
        line = [start(0, 9, 0, 9), land(-5, 4, -5, 4), land(-9, 0, -9, 0), current(3, 3, 3, 3), hours(2),
                other(50, 50, 50, 50)]
        self.assertEqual(told(*line, shore(0), shore(1), shore(2))[6:], [[0, -5, 4, -5, 4], [0, -9, 0, -9, 0], [-2]])

    def test_not_a_box(self):
        line = [start(0, 0, 0, 0), other(9, 9, 9, 9), land(5, 5, 5, 5)]
        self.assertEqual(told(*line, shore(0), shore(1))[3:], [[0, 5, 5, 5, 5], [-2]])

    def test_taken_back(self):
        line = BEGUN + [land(*FOUR[0]), land(*FOUR[1]), back()]
        self.assertEqual(told(*line, shore(0), shore(1), land(*FOUR[3]), shore(1))[-4:],
                         [[0, *FOUR[0]], [-2], [1], [0, *FOUR[3]]])


class AskTold(unittest.TestCase):

    def test_at_first(self):
        self.assertEqual(last(*BEGUN, told_now()), [0] * 9)

    def test_currents_then_winds(self):
        self.assertEqual(last(*BEGUN, current(1, 2, 3, 4), told_now()), [0, 1, 2, 3, 4, 0, 0, 0, 0])
        self.assertEqual(last(*BEGUN, wind(5, 6, 7, 8), told_now()), [0, 0, 0, 0, 0, 5, 6, 7, 8])
        self.assertEqual(last(*BEGUN, wind(-8, -7, -6, -5), current(-4, -3, -2, -1), told_now()),
                         [0, -4, -3, -2, -1, -8, -7, -6, -5])

    def test_the_last_that_was_not_refused(self):
        line = BEGUN + [current(9, 9, 9, 9), wind(9, 9, 9, 9), current(1, 2, 3, 4), wind(5, 6, 7, 8)]
        self.assertEqual(last(*line, current(101, 101, 0, 0), wind(0, 1001, 0, 0), told_now()),
                         [0, 1, 2, 3, 4, 5, 6, 7, 8])
        self.assertEqual(last(*line, hours(3), told_now()), [0, 1, 2, 3, 4, 5, 6, 7, 8])


if __name__ == "__main__":
    unittest.main()
