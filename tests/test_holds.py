"""What holds, asked place by place of many lists, and a plain model told word by word beside the program."""

import copy
import random
import unittest

from tests.helper import (again, ahead, area, back, best, box, box_round, boxes, centre, current, drift, flat, hours,
                          known, land, lands, last, may, other, reaches, searched, shore, sighted, split, start, state,
                          told, told_now, widest, wind)
from driftboxes.drift import answers


def places(found):
    return {(x, y) for west, east, south, north in found
            for x in range(west, east + 1) for y in range(south, north + 1)}


def apart(one, another):
    return one[1] < another[0] or another[1] < one[0] or one[3] < another[2] or another[3] < one[2]


class Model:
    """The document's words, box by box and without any short cut."""

    def begin(self, west, east, south, north, lo, hi):
        if not self.box_within((west, east, south, north), 1000000) or lo > hi or hi > 20:
            return [-22]
        self.backs = []
        self.agains = []
        self.hour = self.sightings = 0
        self.now = [(west, east, south, north)]
        self.lands = []
        self.currents = self.winds = (0, 0, 0, 0)
        self.shares = (lo, hi)
        return [0]

    def box_within(self, edges, limit):
        return edges[0] <= edges[1] and edges[2] <= edges[3] and all(-limit <= edge <= limit for edge in edges)

    def less(self, one, taken):
        w, e, s, n = one
        tw, te, ts, tn = taken
        if apart(one, taken):
            return [one]
        left = [(w, tw - 1, s, n), (te + 1, e, s, n),
                (max(w, tw), min(e, te), s, ts - 1), (max(w, tw), min(e, te), tn + 1, n)]
        return [side for side in left if side[0] <= side[1] and side[2] <= side[3]]

    def off_land(self, found, lands):
        left = []
        for one in found:
            pieces = [one]
            for taken in lands:
                pieces = [piece for whole in pieces for piece in self.less(whole, taken)]
            left += pieces
        return left

    def inside(self, one, whole):
        return whole[0] <= one[0] and one[1] <= whole[1] and whole[2] <= one[2] and one[3] <= whole[3]

    def tidy(self, found):
        kept = []
        for i, one in enumerate(found):
            if not any(self.inside(one, whole) for whole in kept + found[i + 1:]):
                kept.append(one)
        return kept

    def much(self, one):
        return (one[1] - one[0] + 1) * (one[3] - one[2] + 1)

    def hull(self, *found):
        wests, easts, souths, norths = zip(*found)
        return (min(wests), max(easts), min(souths), max(norths))

    def four(self, found):
        found = self.tidy(found)
        while len(found) > 4:
            ways = [(self.much(self.hull(found[i], found[j])) - self.much(found[i]) - self.much(found[j]), i, j)
                    for i in range(len(found)) for j in range(i + 1, len(found))]
            i, j = min(ways)[1:]
            whole = self.hull(found[i], found[j])
            found = self.tidy([one for k, one in enumerate(found) if k not in (i, j)] + [whole])
        return found

    def become(self, found, number=None):
        self.now = found
        return [len(found) if number is None else number]

    def land(self, *edges):
        if not self.box_within(edges, 1000000):
            return [-22]
        if len(self.lands) == 4:
            return [-28]
        left = self.off_land(self.now, self.lands + [edges])
        if not left:
            return [-33]
        self.lands = self.lands + [edges]
        return self.become(self.four(left), len(self.lands) - 1)

    def current(self, *edges):
        if not self.box_within(edges, 100):
            return [-22]
        before, self.currents = self.currents, edges
        return [0, *before]

    def wind(self, *edges):
        if not self.box_within(edges, 1000):
            return [-22]
        before, self.winds = self.winds, edges
        return [0, *before]

    def drift(self):
        edges = []
        for low in (0, 2):
            blown = [self.winds[low] * share for share in self.shares]
            blown += [self.winds[low + 1] * share for share in self.shares]
            edges += [self.currents[low] + min(one // 100 for one in blown),
                      self.currents[low + 1] + max((one + 99) // 100 for one in blown)]
        return edges

    def later(self, n):
        found = self.now
        for step in range(n):
            gone = [tuple(a + b for a, b in zip(one, self.drift())) for one in found]
            found = self.four(self.off_land(gone, self.lands))
        return found

    def hours(self, n):
        if not 1 <= n <= 24:
            return [-22]
        if self.hour + n > 1000:
            return [-75]
        found = self.later(n)
        if not found:
            return [-33]
        self.hour += n
        self.now = found
        return [self.hour, len(found)]

    def sighted(self, *edges):
        if not self.box_within(edges, 3000000):
            return [-22]
        w, e, s, n = edges
        found = [(max(w, one[0]), min(e, one[1]), max(s, one[2]), min(n, one[3])) for one in self.now]
        found = [one for one in found if self.box_within(one, 3000000)]
        if not found:
            return [-33]
        self.sightings += 1
        return self.become(self.tidy(found))

    def searched(self, *edges):
        if not self.box_within(edges, 3000000):
            return [-22]
        found = self.off_land(self.now, [edges])
        return self.become(self.four(found)) if found else [-33]

    def other(self, *edges):
        if not self.box_within(edges, 1000000):
            return [-22]
        if not self.off_land([edges], self.lands):
            return [-33]
        return self.become(self.four(self.off_land(self.now + [edges], self.lands)))

    def box(self, i):
        return [0, *self.now[i]] if i < len(self.now) else [-2]

    def may(self, x, y):
        return [1 if any(self.inside((x, x, y, y), one) for one in self.now) else 0]

    def round(self):
        return [0, *self.hull(*self.now)]

    def area(self):
        return [len(self.now), sum(self.much(one) for one in self.now)]

    def told_drift(self):
        return [0, *self.drift()]

    def ahead(self, n):
        if not 1 <= n <= 24:
            return [-22]
        found = self.later(n)
        return [len(found), *self.hull(*found)] if found else [-33]

    def reaches(self, *edges):
        if not self.box_within(edges, 3000000):
            return [-22]
        beside = copy.copy(self)
        for n in range(49):
            if any(not apart(one, edges) for one in beside.now):
                return [n]
            beside.now = beside.later(1)
        return [-33]

    def best(self):
        much, i = min((self.much(one), i) for i, one in enumerate(self.now))
        return [i, much]

    def centre(self):
        w, e, s, n = self.hull(*self.now)
        # One of the two beside the half, whichever isn't above it.
        return [0, (w + e - (w + e) % 2) // 2, (s + n - (s + n) % 2) // 2]

    def widest(self):
        w, e, s, n = self.hull(*self.now)
        return [0, e - w, n - s]

    def told_lands(self):
        return [len(self.lands), *self.shares]

    def shore(self, i):
        return [0, *self.lands[i]] if i < len(self.lands) else [-2]

    def told(self):
        return [0, *self.currents, *self.winds]

    def put(self, kept):
        self.hour, self.sightings, self.now, self.lands, self.currents, self.winds = kept

    def all(self):
        return copy.deepcopy((self.hour, self.sightings, self.now, self.lands, self.currents, self.winds))

    def back(self):
        if not self.backs:
            return [-2]
        self.agains.append(self.all())
        self.put(self.backs.pop())
        return [len(self.backs)]

    def again(self):
        if not self.agains:
            return [-2]
        self.backs.append(self.all())
        self.put(self.agains.pop())
        return [len(self.agains)]

    def state(self):
        return [self.hour, len(self.now), len(self.lands), self.sightings, len(self.backs), len(self.agains)]

    def answer(self, call):
        ways = [self.begin, self.land, self.current, self.wind, self.hours, self.sighted, self.searched, self.other,
                self.box, self.may, self.round, self.area, self.told_drift, self.ahead, self.reaches, self.best,
                self.centre, self.widest, self.told_lands, self.shore, self.told, self.back, self.again, self.state]
        if not 1 <= call[0] <= 7:
            return ways[call[0]](*call[1:])
        before = self.all()
        answer = ways[call[0]](*call[1:])
        if answer[0] >= 0:
            self.backs = [*self.backs, before][-20:]
            self.agains = []
        return answer


class Dice:
    """Calls by chance, always the same for the same seed."""

    def __init__(self, seed, size):
        self.dice = random.Random(seed)
        self.size = size

    def some(self, low, high):
        return self.dice.randint(low, high)

    def edges(self, great, size=None):
        size = self.size if size is None else size
        west = self.some(-size, size)
        south = self.some(-size, size)
        # Now and then none, so that what isn't a box is handed in, too.
        least = -1 if self.some(0, 30) == 0 else 0
        return (west, west + self.some(least, great), south, south + self.some(least, great))

    def begin(self):
        lo = self.some(0, 20)
        return start(*self.edges(self.size), lo, self.some(lo, 20))

    def change(self):
        size = self.size
        ways = [lambda: land(*self.edges(size // 2)), lambda: current(*self.edges(3, 2)),
                lambda: wind(*self.edges(60, 50)), lambda: hours(self.some(0, 25) if self.some(0, 9) == 0 else 1),
                lambda: sighted(*self.edges(size * 3)), lambda: searched(*self.edges(size)),
                lambda: other(*self.edges(size // 2))]
        return self.dice.choice(ways)()

    def ask(self):
        size = self.size
        ways = [lambda: box(self.some(0, 4)), lambda: may(self.some(-size, size), self.some(-size, size)), box_round,
                area, drift, lambda: ahead(self.some(0, 25)), lambda: reaches(*self.edges(size // 4, size * 2)), best,
                centre, widest, lands, lambda: shore(self.some(0, 4)), told_now, state]
        return self.dice.choice(ways)()

    def call(self):
        if self.some(0, 80) == 0:
            return self.begin()
        return self.dice.choice([self.change, self.change, self.change, self.ask, self.ask, self.ask, back, again])()

    def line(self, long):
        first = self.begin()
        while last(first) != [0]:
            first = self.begin()
        return [first] + [self.call() for step in range(long)]

    def swing(self, long):
        """Changes, and many at once taken back and done again."""
        line = self.line(0)
        while len(line) < long:
            way = self.dice.choice([self.change, self.change, back, again])
            line += [way() for step in range(self.some(1, 25))]
        return line


class BesideTheModel(unittest.TestCase):

    def test_many_lists(self):
        for seed in range(150):
            line = Dice(seed, (6, 20, 300)[seed % 3]).line(80)
            model = Model()
            with self.subTest(seed):
                self.assertEqual(split(answers(flat(line))), [model.answer(call) for call in line])

    def test_long_lists(self):
        for seed in range(3):
            line = Dice(-1 - seed, 25).line(999)
            model = Model()
            with self.subTest(seed):
                self.assertEqual(split(answers(flat(line))), [model.answer(call) for call in line])

    def test_many_taken_back_and_done_again(self):
        for seed in range(30):
            line = [one for call in Dice(seed, 15).swing(200) for one in (call, state())]
            model = Model()
            with self.subTest(seed):
                self.assertEqual(split(answers(flat(line))), [model.answer(call) for call in line])


class WhatHolds(unittest.TestCase):

    def lines(self, many):
        for seed in range(many):
            dice = Dice(1000 + seed, 8)
            yield dice, dice.line(dice.some(0, 25))

    def test_never_too_many_and_all_round(self):
        for dice, line in self.lines(150):
            found = boxes(*line)
            self.assertTrue(1 <= len(found) <= 4)
            wests, easts, souths, norths = zip(*found)
            self.assertEqual(last(*line, box_round()), [0, min(wests), max(easts), min(souths), max(norths)])

    def test_narrowed(self):
        for dice, line in self.lines(150):
            within = dice.edges(20)
            told_now = last(*line, sighted(*within))
            before = places(boxes(*line))
            both = before & places([within])
            if told_now[0] < 0:
                self.assertEqual(both, set())
                self.assertEqual(places(boxes(*line, sighted(*within))), before)
            else:
                self.assertEqual(places(boxes(*line, sighted(*within))), both)

    def test_nothing_is_lost(self):
        for dice, line in self.lines(150):
            where = dice.edges(9)
            before = boxes(*line)
            told_now = last(*line, searched(*where))
            if told_now != [-22]:
                left = places(before) - places([where])
                self.assertEqual(told_now == [-33], left == set())
                if left:
                    self.assertLessEqual(left, places(boxes(*line, searched(*where))))

    def test_one_box_searched_is_just_the_rest(self):
        for seed in range(100):
            dice = Dice(seed, 6)
            one, where = (0, dice.some(0, 9), 0, dice.some(0, 9)), dice.edges(6)
            left = places([one]) - places([where])
            if left and last(start(*one), searched(*where)) != [-22]:
                self.assertEqual(places(boxes(start(*one), searched(*where))), left)
                self.assertEqual(last(start(*one), searched(*where), area())[1], len(left))

    def shifts(self, flowing, blown, lo, hi):
        """The least and the most of all ways to drift on one line: any current, wind, share, rounded either way."""
        ways = []
        for flow in range(flowing[0], flowing[1] + 1):
            for blow in range(blown[0], blown[1] + 1):
                for share in range(lo, hi + 1):
                    ways += [flow + blow * share // 100, flow - (-blow * share // 100)]
        return ways

    def test_surely_there_and_tight(self):
        for seed in range(60):
            dice = Dice(seed, 5)
            lo = dice.some(0, 20)
            hi = dice.some(lo, 20)
            flowing = sorted([dice.some(-3, 3), dice.some(-3, 3)]) + sorted([dice.some(-3, 3), dice.some(-3, 3)])
            blown = sorted([dice.some(-40, 40), dice.some(-40, 40)]) + sorted([dice.some(-40, 40), dice.some(-40, 40)])
            east = self.shifts(flowing[:2], blown[:2], lo, hi)
            north = self.shifts(flowing[2:], blown[2:], lo, hi)
            with self.subTest(seed):
                edges = (min(east), max(east), min(north), max(north))
                line = [start(0, 0, 0, 0, lo, hi), current(*flowing), wind(*blown)]
                self.assertEqual(boxes(*line, hours(1)), [edges])
                self.assertEqual(last(*line, drift()), [0, *edges])

    def test_surely_there_off_land(self):
        for seed in range(100):
            dice = Dice(seed, 8)
            line = [start(0, 6, 0, 6, 0, 20)]
            shores = []
            for step in range(dice.some(1, 4)):
                shore = dice.edges(3)
                if last(*line, land(*shore))[0] >= 0:
                    shores.append(shore)
                    line.append(land(*shore))
            flowing = (-dice.some(0, 2), dice.some(0, 2), -dice.some(0, 2), dice.some(0, 2))
            line.append(current(*flowing))
            before = places(boxes(*line))
            came = {(x + a, y + b) for x, y in before for a in range(flowing[0], flowing[1] + 1)
                    for b in range(flowing[2], flowing[3] + 1)} - places(shores)
            with self.subTest(seed):
                self.assertEqual(told(*line, hours(1))[-1] == [-33], not came)
                if came:
                    self.assertLessEqual(came, places(boxes(*line, hours(1))))

    def test_no_sooner(self):
        for dice, line in self.lines(80):
            goal = dice.edges(3, 14)
            when = last(*line, reaches(*goal))[0]
            if when == -22:
                continue
            # Hour by hour; if it would be nowhere, the hours don't go by and the boxes stay where they were.
            came = [n for n in range(49) if not all(apart(one, goal) for one in boxes(*line, *[hours(1)] * n))]
            with self.subTest(line=line, goal=goal):
                self.assertEqual(when, came[0] if came else -33)

    def test_in_whatever_pieces(self):
        for dice, line in self.lines(80):
            n = dice.some(2, 24)
            if last(*line, hours(n))[0] < 0:
                continue
            first = dice.some(1, n - 1)
            at_once = known(*line, hours(n))
            with self.subTest(line=line, n=n, first=first):
                self.assertEqual(known(*line, hours(first), hours(n - first)), at_once)
                self.assertEqual(known(*line, *[hours(1)] * n), at_once)
                self.assertEqual(last(*line, ahead(n))[1:], last(*line, hours(n), box_round())[1:])

    def standing(self, line):
        """The changes that were not taken back, or done again, by what the calls answered."""
        stand, gone = [], []
        for call, answer in zip(line, told(*line)):
            if answer[0] < 0:
                continue
            if call[0] == 0:
                stand, gone = [call], []
            elif call[0] <= 7:
                stand, gone = stand + [call], []
            elif call == back():
                stand, gone = stand[:-1], gone + stand[-1:]
            elif call == again():
                stand, gone = stand + gone[-1:], gone[:-1]
        return stand

    def test_all_can_be_taken_back_and_done_again(self):
        for seed in range(60):
            line = Dice(seed, 9).swing(120)
            with self.subTest(seed):
                self.assertEqual(known(*line), known(*self.standing(line)))

    def test_back_and_again_as_far_as_can_be(self):
        for seed in range(60):
            line = Dice(500 + seed, 9).swing(60)
            backs, agains = last(*line, state())[4:]
            there = line + [again()] * agains + [back()] * agains
            here = line + [back()] * backs + [again()] * backs
            with self.subTest(seed):
                self.assertEqual(told(*here, state())[-1], told(*line, state())[-1])
                self.assertEqual(known(*here), known(*line))
                self.assertEqual(known(*there), known(*line))
                self.assertEqual(told(*line, *[back()] * (backs + 1))[-1], [-2])
                self.assertEqual(told(*line, *[again()] * (agains + 1))[-1], [-2])


if __name__ == "__main__":
    unittest.main()
