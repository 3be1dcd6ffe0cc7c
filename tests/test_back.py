"""Point 7, and what point 1 says of changes: wm_back, wm_again, wm_state."""

import unittest

from tests.helper import (ASKED, ahead, again, all_of, back, box, boxes, current, hours, known, land, last, may, other,
                          reaches, row, searched, shore, sighted, start, state, told, told_now, wind)

BEGUN = [start(0, 9, 0, 9, 5, 10), land(3, 4, 3, 4), current(1, 2, 0, 0), wind(-100, 0, 0, 100), hours(1),
         sighted(-20, 12, -20, 20)]
EACH = [land(0, 1, 0, 1), current(-3, 3, -3, 3), wind(-7, 7, -7, 7), hours(7), sighted(0, 5, 0, 5),
        searched(0, 0, -20, 20), other(100, 100, 100, 100)]
REFUSED = [land(1, 0, 0, 0), land(-900, 900, -900, 900), current(0, 101, 0, 0), wind(0, 0, -1001, 0), hours(0),
           hours(25), sighted(0, 3000001, 0, 0), sighted(900, 900, 900, 900), searched(1, 0, 0, 0),
           searched(-3000000, 3000000, -3000000, 3000000), other(0, 0, 0, 1000001), other(3, 3, 3, 3), box(4),
           shore(1), ahead(0), reaches(1, 0, 0, 0), reaches(900000, 900000, 0, 0)]


def flows(many):
    """So many changes, each of which can be told from the others."""
    return [current(n, n, 0, 0) for n in range(1, many + 1)]


def flow(*calls):
    """By which of these changes the currents are told."""
    return last(*calls, told_now())[1]


class Back(unittest.TestCase):

    def test_nothing_to_take_back(self):
        self.assertEqual(told(BEGUN[0], back(), back())[1:], [[-2], [-2]])
        self.assertEqual(all_of(BEGUN[0], back()), all_of(BEGUN[0]))

    def test_what_is_no_change(self):
        for call in ASKED + REFUSED + [state(), may(0, 0), reaches(0, 0, 0, 0), again(), start(1, 0, 0, 0)]:
            with self.subTest(call):
                self.assertEqual(told(*BEGUN, call, state(), back())[-2:], [last(*BEGUN, state()), [4]])
                self.assertEqual(known(*BEGUN, call, back()), known(*BEGUN[:-1]))

    def test_each_kind_of_change(self):
        for call in EACH:
            with self.subTest(call):
                self.assertGreaterEqual(last(*BEGUN, call)[0], 0)
                self.assertNotEqual(known(*BEGUN, call), known(*BEGUN))
                self.assertEqual(last(*BEGUN, call, back()), [5])
                self.assertEqual(known(*BEGUN, call, back()), known(*BEGUN))

    def test_all_kinds_one_behind_the_other(self):
        line = BEGUN + EACH
        for many in range(1, len(line)):
            with self.subTest(many):
                self.assertEqual(last(*line, *[back()] * many), [12 - many])
                self.assertEqual(known(*line, *[back()] * many), known(*line[:-many]))
        self.assertEqual(last(*line, *[back()] * 13), [-2])

    def test_hours_are_one_change(self):
        line = [start(0, 0, 0, 0), current(1, 1, 0, 0), hours(3), hours(24), back()]
        self.assertEqual(last(*line), [2])
        self.assertEqual(last(*line, state())[0], 3)
        self.assertEqual(boxes(*line), [row(3, 3)])

    def test_a_change_that_changes_nothing_is_one(self):
        for call in [current(1, 2, 0, 0), wind(-100, 0, 0, 100), sighted(-900, 900, -900, 900), other(-9, -9, 0, 0),
                     searched(900, 900, 900, 900)]:
            with self.subTest(call):
                self.assertEqual(last(*BEGUN, call, state())[4:], [6, 0])
                self.assertEqual(told(*BEGUN, call, back(), state())[-2:], [[5], last(*BEGUN, state())[:4] + [5, 1]])

    def test_room_and_hours_are_there_again(self):
        lands = [start(0, 0, 0, 0)] + [land(*row(x, x)) for x in (100, 200, 300, 400)]
        self.assertEqual(told(*lands, land(*row(9, 9)), back(), land(*row(9, 9)), land(*row(8, 8)))[5:],
                         [[-28], [3], [3], [-28]])
        late = [start(0, 0, 0, 0)] + [hours(24)] * 41 + [hours(16)]
        self.assertEqual(told(*late, hours(1), back(), hours(17), hours(15), hours(1), hours(1))[-6:],
                         [[-75], [19], [-75], [999, 1], [1000, 1], [-75]])

    def test_land_taken_back_is_no_land(self):
        line = [start(*row(0, 4)), land(*row(2, 2)), back()]
        self.assertEqual(boxes(*line), [row(0, 4)])
        self.assertEqual(told(*line, other(*row(2, 2)), may(2, 0), hours(1), may(2, 0))[3:], [[1], [1], [1, 1], [1]])


class Again(unittest.TestCase):

    def test_none_to_be_done_again(self):
        self.assertEqual(told(BEGUN[0], again())[1:], [[-2]])
        self.assertEqual(last(*BEGUN, again()), [-2])
        self.assertEqual(all_of(*BEGUN, again()), all_of(*BEGUN))

    def test_each_kind_of_change(self):
        for call in EACH:
            with self.subTest(call):
                self.assertEqual(last(*BEGUN, call, back(), again()), [0])
                self.assertEqual(all_of(*BEGUN, call, back(), again()), all_of(*BEGUN, call))

    def test_the_one_that_was_taken_back_last(self):
        line = BEGUN + EACH + [back()] * 12
        for many in range(1, 13):
            with self.subTest(many):
                self.assertEqual(last(*line, *[again()] * many), [12 - many])
                self.assertEqual(known(*line, *[again()] * many), known(*(BEGUN + EACH)[:many + 1]))
        self.assertEqual(last(*line, *[again()] * 13), [-2])

    def test_there_and_back(self):
        line = [BEGUN[0]] + flows(3)
        self.assertEqual(told(*line, back(), back(), again(), back(), back(), back(), again(), again(), again(),
                              again())[4:], [[2], [1], [1], [1], [0], [-2], [2], [1], [0], [-2]])
        self.assertEqual(all_of(*line, back(), back(), again(), again()), all_of(*line))

    def test_till_another_change(self):
        for call in EACH:
            line = BEGUN + [current(9, 9, 9, 9), current(8, 8, 8, 8), back(), back(), call]
            with self.subTest(call):
                self.assertEqual(told(*line, again(), state())[-2:], [[-2], last(*BEGUN, call, state())])
                self.assertEqual(all_of(*line), all_of(*BEGUN, call))

    def test_a_change_behind_some_of_many(self):
        line = [BEGUN[0]] + flows(5) + [back(), back(), current(77, 77, 0, 0)]
        self.assertEqual(told(*line, state(), again(), back(), again(), back(), back(), back())[-7:],
                         [[0, 1, 0, 0, 4, 0], [-2], [3], [0], [3], [2], [1]])
        self.assertEqual([flow(*line, *[back()] * many) for many in range(6)], [77, 3, 2, 1, 0, 0])

    def test_a_refused_change_leaves_them(self):
        line = BEGUN + [current(9, 9, 9, 9), hours(2), back(), back()]
        before = all_of(*line)
        self.assertEqual(last(*line, state())[4:], [5, 2])
        for call in REFUSED + [start(1, 0, 0, 0), start(0, 0, 0, 0, 0, 21)]:
            with self.subTest(call):
                self.assertLess(last(*line, call)[0], 0)
                self.assertEqual(all_of(*line, call), before)

    def test_more_refused_changes_leave_them(self):
        full = [start(0, 0, 0, 0)] + [land(*row(x, x)) for x in (100, 200, 300, 400)]
        late = [start(0, 0, 0, 0)] + [hours(24)] * 41 + [hours(16)]
        ashore = [start(0, 0, 0, 0), land(*row(5, 5)), current(5, 5, 0, 0)]
        for line, call, number in [(full, land(*row(9, 9)), -28), (late, hours(1), -75), (ashore, hours(1), -33)]:
            line = line + [wind(1, 1, 1, 1), wind(2, 2, 2, 2), back(), back()]
            with self.subTest(number):
                self.assertEqual(last(*line, call), [number])
                self.assertEqual(last(*line, call, state())[5], 2)
                self.assertEqual(all_of(*line, call), all_of(*line))

    def test_asking_leaves_them(self):
        line = BEGUN + EACH + [back()] * 4
        self.assertEqual(all_of(*line, *ASKED, state(), may(0, 0), reaches(0, 0, 0, 0)), all_of(*line))


class TheLast20(unittest.TestCase):

    def test_how_many_can_be(self):
        for many in (0, 1, 19, 20, 21, 25, 60):
            with self.subTest(many):
                can = min(many, 20)
                line = [BEGUN[0]] + flows(many)
                self.assertEqual(last(*line, state())[4:], [can, 0])
                self.assertEqual(told(*line, *[back()] * 22)[len(line):], [[n] for n in range(can - 1, -1, -1)]
                                 + [[-2]] * (22 - can))
                self.assertEqual(flow(*line, *[back()] * 22), many - can)

    def test_20_taken_back_and_done_again(self):
        line = [BEGUN[0]] + flows(25) + [back()] * 20
        self.assertEqual(last(*line, state())[4:], [0, 20])
        self.assertEqual(told(*line, *[again()] * 21)[len(line):], [[n] for n in range(19, -1, -1)] + [[-2]])
        self.assertEqual([flow(*line, *[again()] * many) for many in range(22)], list(range(5, 26)) + [25])
        self.assertEqual(all_of(*line, *[again()] * 20), all_of(BEGUN[0], *flows(25)))

    def test_a_change_behind_20_taken_back(self):
        line = [BEGUN[0]] + flows(25) + [back()] * 20 + [current(99, 99, 0, 0)]
        self.assertEqual(told(*line, state(), again(), back(), back())[-4:], [[0, 1, 0, 0, 1, 0], [-2], [0], [-2]])
        self.assertEqual(flow(*line, back(), back()), 5)

    def test_what_can_no_more_be_taken_back_never_can(self):
        # The first five are out of reach once 25 were made, though five of these are taken back.
        line = [BEGUN[0]] + flows(25) + [back()] * 5
        self.assertEqual(last(*line, state())[4:], [15, 5])
        self.assertEqual(last(*line, current(99, 99, 0, 0), state())[4:], [16, 0])
        self.assertEqual(flow(*line, current(99, 99, 0, 0), *[back()] * 16), 5)
        self.assertEqual(last(*line, *flows(6), state())[4:], [20, 0])
        self.assertEqual(flow(*line, *flows(6), *[back()] * 20), 6)

    def test_20_of_each_kind(self):
        line = BEGUN + [hours(1), other(50, 60, 50, 60), searched(0, 0, -90, 90)] * 7
        self.assertEqual(last(*line, state())[4:], [20, 0])
        self.assertEqual(known(*line, *[back()] * 20), known(*line[:-20]))
        self.assertEqual(known(*line, *[back()] * 20, *[again()] * 20), known(*line))


class State(unittest.TestCase):

    def test_at_first(self):
        self.assertEqual(last(start(4, 5, 6, 7, 8, 9), state()), [0, 1, 0, 0, 0, 0])

    def test_each_by_itself(self):
        begun = start(0, 2, 0, 2)
        for calls, answer in [([hours(5)], [5, 1, 0, 0, 1, 0]), ([searched(1, 1, 1, 1)], [0, 4, 0, 0, 1, 0]),
                              ([land(9, 9, 9, 9)], [0, 1, 1, 0, 1, 0]), ([sighted(0, 1, 0, 1)], [0, 1, 0, 1, 1, 0]),
                              ([current(1, 1, 1, 1)], [0, 1, 0, 0, 1, 0]), ([wind(1, 1, 1, 1)], [0, 1, 0, 0, 1, 0]),
                              ([other(9, 9, 9, 9)], [0, 2, 0, 0, 1, 0]), ([hours(5), back()], [0, 1, 0, 0, 0, 1])]:
            with self.subTest(calls):
                self.assertEqual(last(begun, *calls, state()), answer)

    def test_all_together(self):
        line = [start(0, 2, 0, 2), land(50, 50, 50, 50), land(60, 60, 60, 60), hours(24), hours(1),
                sighted(-9, 9, -9, 9), sighted(-9, 9, -9, 9), sighted(-9, 9, -9, 9), other(9, 9, 9, 9),
                wind(1, 1, 1, 1), back()]
        self.assertEqual(last(*line, state()), [25, 2, 2, 3, 8, 1])

    def test_how_often_it_was_sighted(self):
        here = sighted(0, 9, 0, 9)
        line = [start(0, 9, 0, 9), here, sighted(90, 90, 90, 90), sighted(1, 0, 0, 0), here]
        self.assertEqual(last(*line, state())[3], 2)
        self.assertEqual([last(*line, *[back()] * many, state())[3] for many in range(4)], [2, 1, 0, 0])
        self.assertEqual(last(*line, back(), back(), again(), state())[3], 1)
        self.assertEqual(last(*line, back(), here, here, state())[3], 3)
        self.assertEqual(last(*line, start(0, 9, 0, 9), state())[3], 0)

    def test_sighted_more_often_than_can_be_taken_back(self):
        line = [start(0, 9, 0, 9)] + [sighted(0, 9, 0, 9)] * 50
        self.assertEqual(last(*line, state()), [0, 1, 0, 50, 20, 0])
        self.assertEqual(last(*line, *[back()] * 21, state()), [0, 1, 0, 30, 0, 20])

    def test_hour_1000(self):
        self.assertEqual(last(start(0, 0, 0, 0), *[hours(24)] * 41, hours(16), state()), [1000, 1, 0, 0, 20, 0])


if __name__ == "__main__":
    unittest.main()
