"""Point 2: wm_current, wm_wind and wm_hours."""

import unittest

from tests.helper import (COVERED, GREATEST, ON_LAND, all_of, boxes, boxes_within, current, hours, known, land, last,
                          may, not_boxes_within, other, row, sighted, start, told, wind)


class CurrentAndWind(unittest.TestCase):

    def kinds(self):
        return [("current", current, 100), ("wind", wind, 1000)]

    def test_refused(self):
        for name, tell, limit in self.kinds():
            begun = [start(0, 5, 0, 5, 2, 9), tell(-7, 8, -9, 10)]
            before = all_of(*begun)
            for bad in not_boxes_within(limit):
                with self.subTest(name, bad=bad):
                    self.assertEqual(last(*begun, tell(*bad)), [-22])
                    self.assertEqual(all_of(*begun, tell(*bad)), before)

    def test_allowed_and_what_they_were(self):
        for name, tell, limit in self.kinds():
            for good in boxes_within(limit):
                with self.subTest(name, good=good):
                    self.assertEqual(told(start(0, 0, 0, 0), tell(*good), tell(1, 2, 3, 4), tell(0, 0, 0, 0)),
                                     [[0], [0, 0, 0, 0, 0], [0, *good], [0, 1, 2, 3, 4]])

    def test_each_by_itself(self):
        begun = [start(0, 0, 0, 0), current(1, 2, 3, 4), wind(5, 6, 7, 8)]
        self.assertEqual(last(*begun, current(0, 0, 0, 0)), [0, 1, 2, 3, 4])
        self.assertEqual(last(*begun, wind(0, 0, 0, 0)), [0, 5, 6, 7, 8])

    def test_only_from_now_on(self):
        begun = [start(0, 0, 0, 0), current(1, 2, 3, 4), hours(2), current(-1, -1, 0, 0)]
        self.assertEqual(boxes(*begun), [(2, 4, 6, 8)])
        self.assertEqual(boxes(*begun, hours(1)), [(1, 3, 6, 8)])


class HoursRefused(unittest.TestCase):

    def test_how_many(self):
        begun = [start(0, 0, 0, 0), current(1, 1, 1, 1), hours(3)]
        for n in (0, 25, 26, 1000, GREATEST):
            with self.subTest(n):
                self.assertEqual(last(*begun, hours(n)), [-22])
                self.assertEqual(all_of(*begun, hours(n)), all_of(*begun))
        self.assertEqual(last(*begun, hours(1)), [4, 1])
        self.assertEqual(last(*begun, hours(24)), [27, 1])

    def test_hour_1000(self):
        begun = [start(0, 0, 0, 0)] + [hours(24)] * 41
        self.assertEqual(last(*begun), [984, 1])
        self.assertEqual(last(*begun, hours(16)), [1000, 1])
        for n in (17, 24):
            with self.subTest(n):
                self.assertEqual(last(*begun, hours(n)), [-75])
                self.assertEqual(last(*begun, hours(n), hours(16)), [1000, 1])
        self.assertEqual(told(*begun, hours(16), hours(1), hours(24), hours(0))[-3:], [[-75], [-75], [-22]])

    def test_nowhere(self):
        begun = [start(*row(-5, -5)), land(0, 10, -10, 10), current(5, 5, 0, 0)]
        for n in (1, 2, 3, 4, 24):
            with self.subTest(n):
                self.assertEqual(last(*begun, hours(n)), [-33])
                self.assertEqual(all_of(*begun, hours(n)), all_of(*begun))
        # It does not come out behind the land: it was nowhere in between.
        self.assertEqual(boxes(*begun, hours(3)), [row(-5, -5)])
        self.assertEqual(last(*begun, hours(3), current(0, 0, 0, 0)), [0, 5, 5, 0, 0])

    def test_nowhere_later_on(self):
        begun = [start(*row(-5, -5)), land(0, 10, -10, 10), current(1, 1, 0, 0)]
        self.assertEqual(last(*begun, hours(4)), [4, 1])
        self.assertEqual(last(*begun, hours(5)), [-33])
        self.assertEqual(told(*begun, hours(4), hours(1), hours(1))[-3:], [[4, 1], [-33], [-33]])

    def test_the_first_told_is_answered(self):
        self.assertEqual(last(*ON_LAND, hours(1)), [-33])
        self.assertEqual(last(*ON_LAND, hours(0)), [-22])
        self.assertEqual(last(*ON_LAND, hours(25)), [-22])
        late = COVERED[:1] + [hours(24)] * 41 + [hours(16)] + COVERED[1:] + [sighted(*row(1, 1))]
        self.assertEqual(last(*late), [1])
        self.assertEqual(told(*late, hours(1), hours(0), hours(25))[-3:], [[-75], [-22], [-22]])


class Drift(unittest.TestCase):

    def drifted(self, lo, hi, blown, flowing=(0, 0, 0, 0)):
        return boxes(start(0, 0, 0, 0, lo, hi), wind(*blown), current(*flowing), hours(1))[0]

    def test_nothing_told(self):
        self.assertEqual(boxes(start(1, 2, 3, 4, 0, 20), hours(24)), [(1, 2, 3, 4)])

    def test_current_alone(self):
        self.assertEqual(self.drifted(0, 20, (0, 0, 0, 0), (-7, 3, -100, 100)), (-7, 3, -100, 100))
        self.assertEqual(self.drifted(0, 0, (-1000, 1000, -1000, 1000), (1, 2, 3, 4)), (1, 2, 3, 4))

    def test_wind_below_and_above_0(self):
        self.assertEqual(self.drifted(3, 7, (-33, -10, 10, 33)), (-3, 0, 0, 3))
        self.assertEqual(self.drifted(3, 7, (10, 33, -33, -10)), (0, 3, -3, 0))
        self.assertEqual(self.drifted(3, 7, (-33, 10, -10, 33)), (-3, 1, -1, 3))

    def test_lo_and_hi_each_where_it_matters(self):
        self.assertEqual(self.drifted(5, 10, (100, 200, -200, -100)), (5, 20, -20, -5))
        self.assertEqual(self.drifted(5, 10, (-200, -100, 100, 200)), (-20, -5, 5, 20))
        self.assertEqual(self.drifted(5, 10, (-300, 200, -200, 300)), (-30, 20, -20, 30))

    def test_rounding_just_beside_whole_steps(self):
        self.assertEqual(self.drifted(1, 1, (99, 99, -99, -99)), (0, 1, -1, 0))
        self.assertEqual(self.drifted(1, 1, (100, 100, -100, -100)), (1, 1, -1, -1))
        self.assertEqual(self.drifted(1, 1, (101, 101, -101, -101)), (1, 2, -2, -1))
        self.assertEqual(self.drifted(1, 1, (1, 1, -1, -1)), (0, 1, -1, 0))

    def test_current_and_wind_together(self):
        self.assertEqual(self.drifted(3, 7, (-33, 10, 10, 33), (-5, 6, 7, 8)), (-8, 7, 7, 11))

    def test_the_most(self):
        most = (-1000, 1000, -1000, 1000)
        self.assertEqual(self.drifted(0, 20, most, (-100, 100, -100, 100)), (-300, 300, -300, 300))

    def test_farthest_out(self):
        far = [start(-1000000, 1000000, -1000000, 1000000, 20, 20), wind(-1000, 1000, -1000, 1000),
               current(-100, 100, -100, 100)] + [hours(24)] * 41 + [hours(16)]
        self.assertEqual(boxes(*far), [(-1300000, 1300000, -1300000, 1300000)])


class HoursGoBy(unittest.TestCase):

    def test_each_edge_by_its_own(self):
        begun = [start(0, 10, 20, 30), current(-1, 2, -3, 4)]
        self.assertEqual(last(*begun, hours(3)), [3, 1])
        self.assertEqual(boxes(*begun, hours(3)), [(-3, 16, 11, 42)])

    def test_every_box_in_its_order(self):
        begun = [start(*row(50, 50)), other(*row(0, 0)), current(1, 2, 3, 4)]
        self.assertEqual(last(*begun, hours(2)), [2, 2])
        self.assertEqual(boxes(*begun, hours(2)), [(52, 54, 6, 8), (2, 4, 6, 8)])

    def test_land_is_taken_away_each_hour(self):
        begun = [start(*row(0, 0)), land(2, 2, -50, 50), current(0, 1, 0, 0)]
        for n in (1, 2, 3, 24):
            with self.subTest(n):
                self.assertEqual(boxes(*begun, hours(n)), [row(0, 1)])

    def test_over_a_land_narrower_than_the_step(self):
        begun = [start(*row(0, 0)), land(2, 2, -50, 50), current(0, 3, 0, 0)]
        self.assertEqual(last(*begun, hours(1)), [1, 2])
        self.assertEqual(boxes(*begun, hours(1)), [row(0, 1), row(3, 3)])
        # The second hour: 0 to 4 without 2, then 3 to 6; what is in these is left out.
        self.assertEqual(boxes(*begun, hours(2)), [row(0, 1), row(3, 6)])

    def test_all_lands_one_behind_the_other(self):
        begun = [start(*row(0, 0)), land(*row(2, 2)), land(*row(-2, -2)), current(-3, 3, 0, 0)]
        self.assertEqual(boxes(*begun, hours(1)), [row(-3, -3), row(-1, 1), row(3, 3)])

    def test_land_covered_again_is_taken_away(self):
        # Again five, of which the two beside the land are the least pair.
        self.assertEqual(boxes(*COVERED, hours(1)), [row(100, 100), row(200, 200), row(300, 300), row(0, 4)])
        fewer = COVERED + [sighted(*row(0, 250))]
        self.assertEqual(boxes(*fewer), [row(100, 100), row(200, 200), row(0, 4)])
        self.assertEqual(last(*fewer, hours(1)), [1, 4])
        self.assertEqual(boxes(*fewer, hours(1)), [row(100, 100), row(200, 200), row(0, 0), row(2, 4)])
        self.assertEqual(told(*fewer, may(1, 0), hours(1), may(1, 0))[-3:], [[1], [1, 4], [0]])

    def test_in_whatever_pieces(self):
        begun = [start(-3, 20, 0, 20, 2, 9), land(4, 6, 4, 6), land(12, 13, 8, 9), land(-9, -8, 0, 3),
                 land(15, 40, -3, 1), current(-2, 1, 0, 1), wind(-40, 10, -70, 20)]
        for n in (2, 3, 5, 24):
            at_once = known(*begun, hours(n))
            with self.subTest(n):
                self.assertEqual(known(*begun, *[hours(1)] * n), at_once)
                self.assertEqual(known(*begun, hours(n - 1), hours(1)), at_once)
                self.assertEqual(known(*begun, hours(1), hours(n - 1)), at_once)


if __name__ == "__main__":
    unittest.main()
