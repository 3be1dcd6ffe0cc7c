"""Point 4: wm_drift, wm_ahead; point 5: wm_reaches."""

import unittest

from tests.helper import (COVERED, GREATEST, ON_LAND, ahead, all_of, box_round, boxes_within, current, drift, hours,
                          land, last, not_boxes_within, other, reaches, row, searched, sighted, start, told, wind)

# It would be nowhere in the first hour; if it were not, it would come out behind the land in the fourth.
SHORE_AHEAD = [start(*row(-5, -5)), land(0, 10, -10, 10), current(5, 5, 0, 0)]
AT_HOUR_1000 = [start(0, 0, 0, 0)] + [hours(24)] * 41 + [hours(16), current(1, 2, 0, 0)]


class AskDrift(unittest.TestCase):

    def of(self, lo, hi, blown, flowing=(0, 0, 0, 0)):
        answer = last(start(0, 9, 0, 9, lo, hi), wind(*blown), current(*flowing), drift())
        self.assertEqual(answer[0], 0)
        return tuple(answer[1:])

    def test_nothing_told(self):
        self.assertEqual(last(start(1, 2, 3, 4, 0, 20), drift()), [0, 0, 0, 0, 0])

    def test_current_alone(self):
        self.assertEqual(self.of(0, 20, (0, 0, 0, 0), (-7, 3, -100, 100)), (-7, 3, -100, 100))
        self.assertEqual(self.of(0, 0, (-1000, 1000, -1000, 1000), (1, 2, 3, 4)), (1, 2, 3, 4))

    def test_wind_rounded_down_and_up(self):
        self.assertEqual(self.of(3, 7, (-33, 10, -10, 33)), (-3, 1, -1, 3))
        self.assertEqual(self.of(1, 1, (99, 99, -99, -99)), (0, 1, -1, 0))
        self.assertEqual(self.of(1, 1, (100, 100, -100, -100)), (1, 1, -1, -1))
        self.assertEqual(self.of(1, 1, (101, 101, -101, -101)), (1, 2, -2, -1))

    def test_lo_and_hi_each_where_it_matters(self):
        self.assertEqual(self.of(5, 10, (100, 200, -200, -100)), (5, 20, -20, -5))
        self.assertEqual(self.of(5, 10, (-300, 200, -200, 300)), (-30, 20, -20, 30))

    def test_current_and_wind_together(self):
        self.assertEqual(self.of(3, 7, (-33, 10, 10, 33), (-5, 6, 7, 8)), (-8, 7, 7, 11))
        self.assertEqual(self.of(0, 20, (-1000, 1000, -1000, 1000), (-100, 100, -100, 100)), (-300, 300, -300, 300))

    def test_as_told_now(self):
        begun = [start(0, 0, 0, 0, 10, 10), current(1, 2, 3, 4), hours(5), wind(10, 20, 30, 40)]
        self.assertEqual(last(*begun, drift()), [0, 2, 4, 6, 8])
        self.assertEqual(last(*begun, current(0, 0, 0, 0), drift()), [0, 1, 2, 3, 4])
        self.assertEqual(last(*begun, current(1, 0, 0, 0), drift()), [0, 2, 4, 6, 8])
        self.assertEqual(last(*begun, start(0, 0, 0, 0, 10, 10), drift()), [0, 0, 0, 0, 0])


class AskAhead(unittest.TestCase):

    def test_how_many(self):
        for begun in ([start(0, 0, 0, 0)], ON_LAND):
            for n in (0, 25, 26, 48, 1000, GREATEST):
                with self.subTest(begun=begun, n=n):
                    self.assertEqual(last(*begun, ahead(n)), [-22])

    def test_nowhere(self):
        for n in (1, 2, 3, 4, 24):
            with self.subTest(n):
                self.assertEqual(last(*SHORE_AHEAD, ahead(n)), [-33])
        self.assertEqual(last(*ON_LAND, ahead(1)), [-33])

    def test_nowhere_later_on(self):
        begun = [start(*row(-5, -5)), land(0, 10, -10, 10), current(1, 1, 0, 0)]
        self.assertEqual(told(*begun, ahead(4), ahead(5), ahead(24), ahead(4))[3:],
                         [[1, -1, -1, 0, 0], [-33], [-33], [1, -1, -1, 0, 0]])

    def test_the_box_round_all(self):
        begun = [start(0, 4, 0, 4), other(10, 14, -2, 2), other(-7, -6, 8, 9), current(-1, 2, -3, 4)]
        self.assertEqual(last(*begun, ahead(1)), [3, -8, 16, -5, 13])
        self.assertEqual(last(*begun, ahead(3)), [3, -10, 20, -11, 21])
        self.assertEqual(last(start(1, 2, 3, 4), ahead(24)), [1, 1, 2, 3, 4])

    def test_land_is_taken_away_on_the_way(self):
        begun = [start(*row(0, 0)), land(2, 2, -50, 50), current(0, 1, 0, 0)]
        self.assertEqual(told(*begun, ahead(1), ahead(2), ahead(24))[3:], [[1, 0, 1, 0, 0]] * 3)
        self.assertEqual(last(*begun, current(0, 3, 0, 0), ahead(1)), [2, 0, 3, 0, 0])

    def lines(self):
        return [
            [start(-3, 20, 0, 20, 2, 9), land(4, 6, 4, 6), land(12, 13, 8, 9), land(-9, -8, 0, 3),
             land(15, 40, -3, 1), current(-2, 1, 0, 1), wind(-40, 10, -70, 20)],
            [start(*row(50, 50)), other(*row(0, 0)), current(1, 2, 3, 4), land(55, 60, 5, 50)],
            SHORE_AHEAD[:2] + [current(0, 1, 0, 1)],
            COVERED,
        ]

    def test_beside_as_many_hours(self):
        for begun in self.lines():
            for n in range(1, 25):
                then = told(*begun, hours(n), box_round())[-2:]
                with self.subTest(begun=begun, n=n):
                    self.assertEqual(last(*begun, ahead(n)), [then[0][1], *then[1][1:]])

    def test_nothing_goes_by(self):
        for begun in self.lines():
            for asked in (ahead(1), ahead(24), ahead(0)):
                with self.subTest(begun=begun, asked=asked):
                    self.assertEqual(all_of(*begun, asked), all_of(*begun))

    def test_what_is_told_in_between_counts(self):
        begun = [start(*row(0, 0)), current(1, 1, 0, 0), ahead(5)]
        self.assertEqual(last(*begun, ahead(5)), [1, 5, 5, 0, 0])
        self.assertEqual(last(*begun, current(-1, -1, 0, 0), ahead(5)), [1, -5, -5, 0, 0])
        self.assertEqual(last(*begun, wind(100, 100, 0, 0), ahead(5)), [1, 5, 5, 0, 0])
        self.assertEqual(last(*begun, hours(2), ahead(5)), [1, 7, 7, 0, 0])
        self.assertEqual(last(*begun, other(*row(9, 9)), ahead(5)), [2, 5, 14, 0, 0])
        self.assertEqual(last(*begun, other(*row(9, 9)), ahead(5), searched(*row(0, 0)), ahead(5)), [1, 14, 14, 0, 0])
        self.assertEqual(last(*begun, other(*row(9, 9)), ahead(5), sighted(*row(0, 0)), ahead(5)), [1, 5, 5, 0, 0])
        self.assertEqual(last(*begun, land(*row(3, 3)), ahead(5)), [-33])
        self.assertEqual(last(*begun, start(*row(2, 2)), ahead(5)), [1, 2, 2, 0, 0])

    def test_beyond_hour_1000(self):
        self.assertEqual(told(*AT_HOUR_1000, hours(1), ahead(1), ahead(24))[-3:],
                         [[-75], [1, 1, 2, 0, 0], [1, 24, 48, 0, 0]])


class ReachesRefused(unittest.TestCase):

    def test_not_a_box_or_beyond(self):
        for begun in ([start(-9, 9, -9, 9)], ON_LAND):
            for bad in not_boxes_within(3000000):
                with self.subTest(begun=begun, bad=bad):
                    self.assertEqual(last(*begun, reaches(*bad)), [-22])

    def test_not_within_48_hours(self):
        begun = [start(0, 9, 0, 9)]
        for outside in [(10, 99, 0, 9), (-99, -1, 0, 9), (0, 9, 10, 99), (0, 9, -99, -1), (10, 10, 10, 10),
                        (3000000, 3000000, 3000000, 3000000)]:
            with self.subTest(outside):
                self.assertEqual(last(*begun, reaches(*outside)), [-33])

    def test_nowhere_on_the_way(self):
        self.assertEqual(told(*SHORE_AHEAD, reaches(*row(15, 15)), reaches(*row(-3000000, -6)),
                              reaches(*row(0, 5)))[3:], [[-33]] * 3)
        without_land = SHORE_AHEAD[:1] + SHORE_AHEAD[2:]
        self.assertEqual(last(*without_land, reaches(*row(15, 15))), [4])
        # Ahead of that it is somewhere.
        slow = SHORE_AHEAD[:2] + [current(2, 2, 0, 0)]
        self.assertEqual(told(*slow, reaches(*row(-3, -3)), reaches(*row(-1, -1)), reaches(*row(1, 1)),
                              reaches(*row(11, 11)))[3:], [[1], [2], [-33], [-33]])

    def test_all_is_as_it_was(self):
        begun = SHORE_AHEAD[:2] + [current(0, 2, 0, 1)]
        for asked in (reaches(1, 0, 0, 0), reaches(*row(-90, -90)), reaches(*row(-3, -3)), reaches(*row(-5, -5))):
            with self.subTest(asked):
                self.assertEqual(all_of(*begun, asked), all_of(*begun))


class Reaches(unittest.TestCase):

    def test_edges_are_allowed(self):
        for good in boxes_within(3000000):
            with self.subTest(good):
                here = good[0] <= 0 <= good[1] and good[2] <= 0 <= good[3]
                self.assertEqual(last(start(0, 0, 0, 0), reaches(*good)), [0 if here else -33])

    def test_now(self):
        begun = [start(0, 9, 0, 9), other(20, 29, 0, 9), current(1, 1, 1, 1)]
        for here in [(0, 0, 0, 0), (9, 9, 9, 9), (9, 50, 9, 50), (-9, 0, -9, 0), (-9, 99, 5, 5), (3, 4, 3, 4),
                     (10, 20, 9, 12), (29, 30, 0, 0), (-3000000, 3000000, -3000000, 3000000)]:
            with self.subTest(here):
                self.assertEqual(last(*begun, reaches(*here)), [0])

    def test_now_though_nowhere_next(self):
        self.assertEqual(last(*SHORE_AHEAD, reaches(*row(-5, -5))), [0])
        self.assertEqual(last(*ON_LAND, reaches(*row(1, 1))), [0])
        self.assertEqual(last(*ON_LAND, reaches(*row(2, 2))), [-33])

    def test_each_hour_to_48_each_way(self):
        for east, north in [(1, 0), (-1, 0), (0, 1), (0, -1), (1, -1)]:
            begun = [start(0, 0, 0, 0), current(east, east, north, north)]
            asked = [reaches(n * east, n * east, n * north, n * north) for n in range(52)]
            with self.subTest(east=east, north=north):
                self.assertEqual(told(*begun, *asked)[2:], [[n] for n in range(49)] + [[-33]] * 3)

    def test_the_first_of_several(self):
        begun = [start(*row(0, 0)), current(1, 2, 0, 0)]
        self.assertEqual([last(*begun, reaches(*row(x, x))) for x in range(1, 8)], [[1], [1], [2], [2], [3], [3], [4]])
        self.assertEqual(last(*begun, reaches(*row(5, 40))), [3])
        self.assertEqual(last(*begun, reaches(*row(95, 99))), [48])
        self.assertEqual(last(*begun, reaches(*row(96, 96))), [48])
        self.assertEqual(last(*begun, reaches(*row(97, 97))), [-33])

    def test_passed_over_between_two_hours(self):
        begun = [start(*row(0, 1)), current(5, 5, 0, 0)]
        self.assertEqual(told(*begun, reaches(*row(2, 4)), reaches(*row(5, 5)), reaches(*row(7, 9)),
                              reaches(*row(7, 10)))[2:], [[-33], [1], [-33], [2]])

    def test_any_box(self):
        begun = [start(*row(0, 0)), other(*row(100, 100)), current(1, 1, 0, 0)]
        self.assertEqual(told(*begun, reaches(*row(30, 30)), reaches(*row(110, 110)), reaches(*row(30, 110)),
                              reaches(*row(48, 148)), reaches(*row(149, 149)))[3:], [[30], [10], [0], [0], [-33]])

    def test_between_boxes_it_is_not(self):
        begun = [start(*row(0, 0)), other(*row(100, 100)), other(0, 0, 50, 50)]
        self.assertEqual(told(*begun, reaches(*row(1, 99)), reaches(1, 100, 1, 50))[3:], [[-33], [-33]])

    def test_land_holds_it_up(self):
        begun = [start(*row(0, 0)), land(2, 2, -50, 50)]
        self.assertEqual(last(*begun, current(0, 1, 0, 0), reaches(*row(3, 9))), [-33])
        self.assertEqual(last(*begun, current(0, 1, 0, 0), reaches(*row(2, 2))), [-33])
        self.assertEqual(last(*begun, current(0, 3, 0, 0), reaches(*row(3, 9))), [1])
        # The way round the land's end: 51 to the north at one an hour is too far, two an hour is not.
        self.assertEqual(last(*begun, current(0, 1, 0, 1), reaches(*row(3, 9))), [-33])
        self.assertEqual(last(*begun, current(0, 1, 0, 2), reaches(3, 9, 0, 60)), [27])

    def test_where_a_box_round_two_covers_it(self):
        self.assertEqual(last(*COVERED, reaches(*row(1, 1))), [0])

    def test_beyond_hour_1000(self):
        self.assertEqual(told(*AT_HOUR_1000, reaches(*row(20, 20)), reaches(*row(96, 96)),
                              reaches(*row(97, 97)))[-3:], [[10], [48], [-33]])

    def test_farthest(self):
        begun = [start(1000000, 1000000, -1000000, -1000000, 0, 20), wind(0, 1000, -1000, 0),
                 current(0, 100, -100, 0)]
        self.assertEqual(told(*begun, reaches(1014400, 3000000, -3000000, -1014400),
                              reaches(1014401, 3000000, -3000000, -1014400))[3:], [[48], [-33]])

    def test_what_is_told_in_between_counts(self):
        begun = [start(*row(0, 0)), current(1, 1, 0, 0), reaches(*row(9, 9))]
        goal = reaches(*row(9, 9))
        self.assertEqual(last(*begun, goal), [9])
        self.assertEqual(last(*begun, current(3, 3, 0, 0), goal), [3])
        self.assertEqual(last(*begun, hours(4), goal), [5])
        self.assertEqual(last(*begun, hours(10), goal), [-33])
        self.assertEqual(last(*begun, other(*row(7, 7)), goal), [2])
        self.assertEqual(last(*begun, land(*row(5, 5)), goal), [-33])


if __name__ == "__main__":
    unittest.main()
