"""What holds, asked place by place of many lists, and a plain model told word by word beside the program."""

import random
import unittest

from tests.helper import (area, box, box_round, boxes, current, flat, hours, land, last, may, other, searched,
                          sighted, split, start, told, wind)
from driftboxes.drift import answers


def places(found):
    return {(x, y) for west, east, south, north in found
            for x in range(west, east + 1) for y in range(south, north + 1)}


class Model:
    """The document's words, box by box and without any short cut."""

    def begin(self, west, east, south, north, lo, hi):
        if not self.box_within((west, east, south, north), 1000000) or lo > hi or hi > 20:
            return [-22]
        self.hour = 0
        self.now = [(west, east, south, north)]
        self.lands = []
        self.currents = self.winds = (0, 0, 0, 0)
        self.shares = (lo, hi)
        return [0]

    def box_within(self, edges, limit):
        return edges[0] <= edges[1] and edges[2] <= edges[3] and all(-limit <= edge <= limit for edge in edges)

    def less(self, one, taken):
        w, e, s, n = one
        tw, te, ts, tn = taken
        if te < w or tw > e or tn < s or ts > n:
            return [one]
        left = [(w, tw - 1, s, n), (te + 1, e, s, n),
                (max(w, tw), min(e, te), s, ts - 1), (max(w, tw), min(e, te), tn + 1, n)]
        return [side for side in left if side[0] <= side[1] and side[2] <= side[3]]

    def off_land(self, found, lands):
        left = []
        for one in found:
            pieces = [one]
            for taken in lands:
                pieces = [piece for whole in pieces for piece in self.less(whole, taken)]
            left += pieces
        return left

    def inside(self, one, whole):
        return whole[0] <= one[0] and one[1] <= whole[1] and whole[2] <= one[2] and one[3] <= whole[3]

    def tidy(self, found):
        kept = []
        for i, one in enumerate(found):
            if not any(self.inside(one, whole) for whole in kept + found[i + 1:]):
                kept.append(one)
        return kept

    def much(self, one):
        return (one[1] - one[0] + 1) * (one[3] - one[2] + 1)

    def hull(self, *found):
        wests, easts, souths, norths = zip(*found)
        return (min(wests), max(easts), min(souths), max(norths))

    def four(self, found):
        found = self.tidy(found)
        while len(found) > 4:
            ways = [(self.much(self.hull(found[i], found[j])) - self.much(found[i]) - self.much(found[j]), i, j)
                    for i in range(len(found)) for j in range(i + 1, len(found))]
            i, j = min(ways)[1:]
            whole = self.hull(found[i], found[j])
            found = self.tidy([one for k, one in enumerate(found) if k not in (i, j)] + [whole])
        return found

    def become(self, found, number=None):
        self.now = found
        return [len(found) if number is None else number]

    def land(self, *edges):
        if not self.box_within(edges, 1000000):
            return [-22]
        if len(self.lands) == 4:
            return [-28]
        left = self.off_land(self.now, self.lands + [edges])
        if not left:
            return [-33]
        self.lands = self.lands + [edges]
        return self.become(self.four(left), len(self.lands) - 1)

    def current(self, *edges):
        if not self.box_within(edges, 100):
            return [-22]
        before, self.currents = self.currents, edges
        return [0, *before]

    def wind(self, *edges):
        if not self.box_within(edges, 1000):
            return [-22]
        before, self.winds = self.winds, edges
        return [0, *before]

    def drift(self):
        edges = []
        for low in (0, 2):
            blown = [self.winds[low] * share for share in self.shares]
            blown += [self.winds[low + 1] * share for share in self.shares]
            edges += [self.currents[low] + min(one // 100 for one in blown),
                      self.currents[low + 1] + max((one + 99) // 100 for one in blown)]
        return edges

    def hours(self, n):
        if not 1 <= n <= 24:
            return [-22]
        if self.hour + n > 1000:
            return [-75]
        found = self.now
        for step in range(n):
            gone = [tuple(a + b for a, b in zip(one, self.drift())) for one in found]
            found = self.four(self.off_land(gone, self.lands))
        if not found:
            return [-33]
        self.hour += n
        self.now = found
        return [self.hour, len(found)]

    def sighted(self, *edges):
        if not self.box_within(edges, 3000000):
            return [-22]
        w, e, s, n = edges
        found = [(max(w, one[0]), min(e, one[1]), max(s, one[2]), min(n, one[3])) for one in self.now]
        found = [one for one in found if self.box_within(one, 3000000)]
        return self.become(self.tidy(found)) if found else [-33]

    def searched(self, *edges):
        if not self.box_within(edges, 3000000):
            return [-22]
        found = self.off_land(self.now, [edges])
        return self.become(self.four(found)) if found else [-33]

    def other(self, *edges):
        if not self.box_within(edges, 1000000):
            return [-22]
        if not self.off_land([edges], self.lands):
            return [-33]
        return self.become(self.four(self.off_land(self.now + [edges], self.lands)))

    def box(self, i):
        return [0, *self.now[i]] if i < len(self.now) else [-2]

    def may(self, x, y):
        return [1 if any(self.inside((x, x, y, y), one) for one in self.now) else 0]

    def round(self):
        return [0, *self.hull(*self.now)]

    def area(self):
        return [len(self.now), sum(self.much(one) for one in self.now)]

    def answer(self, call):
        ways = [self.begin, self.land, self.current, self.wind, self.hours, self.sighted, self.searched, self.other,
                self.box, self.may, self.round, self.area]
        return ways[call[0]](*call[1:])


class Dice:
    """Calls by chance, always the same for the same seed."""

    def __init__(self, seed, size):
        self.dice = random.Random(seed)
        self.size = size

    def some(self, low, high):
        return self.dice.randint(low, high)

    def edges(self, great, size=None):
        size = self.size if size is None else size
        west = self.some(-size, size)
        south = self.some(-size, size)
        # Now and then none, so that what isn't a box is handed in, too.
        least = -1 if self.some(0, 30) == 0 else 0
        return (west, west + self.some(least, great), south, south + self.some(least, great))

    def begin(self):
        lo = self.some(0, 20)
        return start(*self.edges(self.size), lo, self.some(lo, 20))

    def call(self):
        size = self.size
        way = self.some(0, 60)
        if way == 0:
            return self.begin()
        ways = [lambda: land(*self.edges(size // 2)), lambda: current(*self.edges(3, 2)),
                lambda: wind(*self.edges(60, 50)), lambda: hours(self.some(0, 25) if self.some(0, 9) == 0 else 1),
                lambda: sighted(*self.edges(size * 3)), lambda: searched(*self.edges(size)),
                lambda: other(*self.edges(size // 2)), lambda: box(self.some(0, 4)),
                lambda: may(self.some(-size, size), self.some(-size, size)), box_round, area]
        return ways[way % len(ways)]()

    def line(self, long):
        first = self.begin()
        while last(first) != [0]:
            first = self.begin()
        return [first] + [self.call() for step in range(long)]


class BesideTheModel(unittest.TestCase):

    def test_many_lists(self):
        for seed in range(150):
            line = Dice(seed, (6, 20, 300)[seed % 3]).line(80)
            model = Model()
            with self.subTest(seed):
                self.assertEqual(split(answers(flat(line))), [model.answer(call) for call in line])

    def test_long_lists(self):
        for seed in range(3):
            line = Dice(-1 - seed, 25).line(999)
            model = Model()
            with self.subTest(seed):
                self.assertEqual(split(answers(flat(line))), [model.answer(call) for call in line])


class WhatHolds(unittest.TestCase):

    def lines(self, many):
        for seed in range(many):
            dice = Dice(1000 + seed, 8)
            yield dice, dice.line(dice.some(0, 25))

    def test_never_too_many_and_all_round(self):
        for dice, line in self.lines(150):
            found = boxes(*line)
            self.assertTrue(1 <= len(found) <= 4)
            wests, easts, souths, norths = zip(*found)
            self.assertEqual(last(*line, box_round()), [0, min(wests), max(easts), min(souths), max(norths)])

    def test_narrowed(self):
        for dice, line in self.lines(150):
            within = dice.edges(20)
            told_now = last(*line, sighted(*within))
            before = places(boxes(*line))
            both = before & places([within])
            if told_now[0] < 0:
                self.assertEqual(both, set())
                self.assertEqual(places(boxes(*line, sighted(*within))), before)
            else:
                self.assertEqual(places(boxes(*line, sighted(*within))), both)

    def test_nothing_is_lost(self):
        for dice, line in self.lines(150):
            where = dice.edges(9)
            before = boxes(*line)
            told_now = last(*line, searched(*where))
            if told_now != [-22]:
                left = places(before) - places([where])
                self.assertEqual(told_now == [-33], left == set())
                if left:
                    self.assertLessEqual(left, places(boxes(*line, searched(*where))))

    def test_one_box_searched_is_just_the_rest(self):
        for seed in range(100):
            dice = Dice(seed, 6)
            one, where = (0, dice.some(0, 9), 0, dice.some(0, 9)), dice.edges(6)
            left = places([one]) - places([where])
            if left and last(start(*one), searched(*where)) != [-22]:
                self.assertEqual(places(boxes(start(*one), searched(*where))), left)
                self.assertEqual(last(start(*one), searched(*where), area())[1], len(left))

    def shifts(self, flowing, blown, lo, hi):
        """The least and the most of all ways to drift on one line: any current, wind, share, rounded either way."""
        ways = []
        for flow in range(flowing[0], flowing[1] + 1):
            for blow in range(blown[0], blown[1] + 1):
                for share in range(lo, hi + 1):
                    ways += [flow + blow * share // 100, flow - (-blow * share // 100)]
        return ways

    def test_surely_there_and_tight(self):
        for seed in range(60):
            dice = Dice(seed, 5)
            lo = dice.some(0, 20)
            hi = dice.some(lo, 20)
            flowing = sorted([dice.some(-3, 3), dice.some(-3, 3)]) + sorted([dice.some(-3, 3), dice.some(-3, 3)])
            blown = sorted([dice.some(-40, 40), dice.some(-40, 40)]) + sorted([dice.some(-40, 40), dice.some(-40, 40)])
            east = self.shifts(flowing[:2], blown[:2], lo, hi)
            north = self.shifts(flowing[2:], blown[2:], lo, hi)
            with self.subTest(seed):
                self.assertEqual(boxes(start(0, 0, 0, 0, lo, hi), current(*flowing), wind(*blown), hours(1)),
                                 [(min(east), max(east), min(north), max(north))])

    def test_surely_there_off_land(self):
        for seed in range(100):
            dice = Dice(seed, 8)
            line = [start(0, 6, 0, 6, 0, 20)]
            shores = []
            for step in range(dice.some(1, 4)):
                shore = dice.edges(3)
                if last(*line, land(*shore))[0] >= 0:
                    shores.append(shore)
                    line.append(land(*shore))
            flowing = (-dice.some(0, 2), dice.some(0, 2), -dice.some(0, 2), dice.some(0, 2))
            line.append(current(*flowing))
            before = places(boxes(*line))
            came = {(x + a, y + b) for x, y in before for a in range(flowing[0], flowing[1] + 1)
                    for b in range(flowing[2], flowing[3] + 1)} - places(shores)
            with self.subTest(seed):
                self.assertEqual(told(*line, hours(1))[-1] == [-33], not came)
                if came:
                    self.assertLessEqual(came, places(boxes(*line, hours(1))))


if __name__ == "__main__":
    unittest.main()
