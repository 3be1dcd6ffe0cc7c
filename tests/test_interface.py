"""The interface: driftboxes.drift.answers, how calls are handed in and answers given back."""

import contextlib
import io
import unittest

import driftboxes.drift
from tests.helper import (GREATEST, again, ahead, area, back, best, box, box_round, centre, current, drift, flat, hours,
                          land, lands, may, other, reaches, searched, shore, sighted, start, state, told_now, widest,
                          wind)

EVERY = [start(0, 9, 0, 9, 2, 8), land(4, 4, 4, 4), current(-1, 1, -2, 2), wind(10, 20, -20, -10), hours(1),
         sighted(-5, 20, -5, 9), searched(0, 0, 0, 9), other(50, 60, 50, 60), box(0), box(9), may(50, 50),
         box_round(), area(), drift(), ahead(3), ahead(0), reaches(20, 20, 20, 20), reaches(-900, -900, 0, 0), best(),
         centre(), widest(), lands(), shore(0), shore(1), told_now(), back(), back(), again(), again(), again(),
         back(), state()]


class Interface(unittest.TestCase):

    def test_numbers_before_each_answer(self):
        calls = [0, 1, 2, 3, 4, 0, 0, 1, 9, 9, 9, 9, 2, -1, 1, -2, 2, 3, 1, 1, 1, 1, 4, 2,
                 5, -9, 99, -9, 99, 6, 99, 99, 99, 99, 7, 30, 31, 30, 31, 8, 0, 9, 30, 30, 10, 11]
        self.assertEqual(driftboxes.drift.answers(calls),
                         [1, 0, 1, 0, 5, 0, 0, 0, 0, 0, 5, 0, 0, 0, 0, 0, 2, 2, 1,
                          1, 1, 1, 1, 1, 2, 5, 0, -1, 4, -1, 8, 1, 1, 5, 0, -1, 31, -1, 31, 2, 2, 64])

    def test_numbers_before_each_of_the_others(self):
        calls = [0, 1, 4, -3, 4, 0, 10, 1, 9, 9, 8, 8, 2, -1, 1, -2, 2, 3, 10, 20, -30, 0, 12, 13, 2, 14, 7, 7, 4, 9,
                 15, 16, 17, 18, 19, 0, 20, 21, 21, 22, 23]
        self.assertEqual(driftboxes.drift.answers(calls),
                         [1, 0, 1, 0, 5, 0, 0, 0, 0, 0, 5, 0, 0, 0, 0, 0,
                          5, 0, -1, 3, -5, 2, 5, 3, -1, 10, -13, 8, 1, 1, 2, 0, 32, 3, 0, 2, 0, 3, 0, 3, 7, 3, 1, 0, 10,
                          5, 0, 9, 9, 8, 8, 9, 0, -1, 1, -2, 2, 10, 20, -30, 0, 1, 2, 1, 1, 1, 1, 6, 0, 1, 1, 0, 2, 1])

    def test_a_refusal_of_the_others_alone(self):
        calls = flat([start(0, 0, 0, 0), ahead(0), ahead(GREATEST), reaches(1, 0, 0, 0), reaches(9, 9, 9, 9), shore(0),
                      back(), again()])
        self.assertEqual(driftboxes.drift.answers(calls),
                         [1, 0, 1, -22, 1, -22, 1, -22, 1, -33, 1, -2, 1, -2, 1, -2])

    def test_a_refusal_alone(self):
        calls = flat([start(0, 0, 0, 0), land(1, 0, 0, 0), current(1, 0, 0, 0), wind(1, 0, 0, 0), hours(0),
                      sighted(9, 9, 9, 9), searched(0, 0, 0, 0), other(1, 0, 0, 0), box(1)])
        self.assertEqual(driftboxes.drift.answers(calls),
                         [1, 0, 1, -22, 1, -22, 1, -22, 1, -22, 1, -33, 1, -33, 1, -22, 1, -2])

    def test_refused_starts_alone(self):
        self.assertEqual(driftboxes.drift.answers(start(1, 0, 0, 0)), [1, -22])
        self.assertEqual(driftboxes.drift.answers(flat([start(0, 0, 0, 0, 0, 21)] * 3)), [1, -22] * 3)

    def test_refused_starts_ahead_of_the_first(self):
        calls = flat([start(1, 0, 0, 0), start(0, 0, 1, 0), start(0, 0, 0, 0, 3, 2), start(4, 5, 6, 7), box(0)])
        self.assertEqual(driftboxes.drift.answers(calls), [1, -22, 1, -22, 1, -22, 1, 0, 5, 0, 4, 5, 6, 7])

    def test_a_thousand_calls(self):
        calls = flat([start(0, 0, 0, 0), current(1, 1, 0, 0)] + [hours(1), may(500, 0)] * 499)
        expected = [1, 0, 5, 0, 0, 0, 0, 0]
        for hour in range(1, 500):
            expected += [2, hour, 1, 1, 0]
        self.assertEqual(driftboxes.drift.answers(calls), expected)
        self.assertEqual(driftboxes.drift.answers(flat([start(1, 2, 3, 4)] * 1000)), [1, 0] * 1000)

    def test_a_thousand_taken_back_and_done_again(self):
        calls = flat([start(0, 0, 0, 0), current(1, 1, 0, 0)] + [back(), again()] * 499)
        self.assertEqual(driftboxes.drift.answers(calls), [1, 0, 5, 0, 0, 0, 0, 0] + [1, 0, 1, 0] * 499)

    def test_a_thousand_looks_ahead(self):
        calls = flat([start(0, 0, 0, 0), land(5, 6, -9, 9), current(-1, 1, -1, 1)] + [reaches(49, 49, 0, 0)] * 997)
        self.assertEqual(driftboxes.drift.answers(calls), [1, 0, 1, 0, 5, 0, 0, 0, 0, 0] + [1, -33] * 997)

    def test_longest_list(self):
        calls = flat([start(0, 1000, 0, 1000, 0, 20)] + [searched(x, x + 1, x, x + 1) for x in range(999)])
        told = driftboxes.drift.answers(calls)
        self.assertEqual(len(told), 2000)
        self.assertEqual(told[:4], [1, 0, 1, 2])

    def test_the_list_handed_in_is_as_it_was(self):
        calls = flat(EVERY)
        before = list(calls)
        driftboxes.drift.answers(calls)
        self.assertEqual(calls, before)

    def test_twice_is_the_same(self):
        first = driftboxes.drift.answers(flat(EVERY))
        kept = list(first)
        driftboxes.drift.answers(flat([start(7, 7, 7, 7, 1, 1), land(0, 0, 0, 0), current(9, 9, 9, 9), hours(9)]))
        second = driftboxes.drift.answers(flat(EVERY))
        self.assertEqual(first, kept)
        self.assertEqual(second, kept)
        first.append(0)
        self.assertEqual(second, kept)

    def test_whole_numbers_in_a_list(self):
        told = driftboxes.drift.answers(flat(EVERY))
        self.assertIs(type(told), list)
        self.assertEqual({type(number) for number in told}, {int})

    def test_prints_nothing(self):
        printed = io.StringIO()
        with contextlib.redirect_stdout(printed), contextlib.redirect_stderr(printed):
            driftboxes.drift.answers(flat(EVERY))
        self.assertEqual(printed.getvalue(), "")


if __name__ == "__main__":
    unittest.main()
