"""What the tests share: the calls by their names, and the answers call by call."""

from driftboxes.drift import answers

GREATEST = 4294967295
LEAST_SIGNED = -2147483648
GREATEST_SIGNED = 2147483647


def start(west, east, south, north, lo=0, hi=0):
    return [0, west, east, south, north, lo, hi]


def land(west, east, south, north):
    return [1, west, east, south, north]


def current(west, east, south, north):
    return [2, west, east, south, north]


def wind(west, east, south, north):
    return [3, west, east, south, north]


def hours(n):
    return [4, n]


def sighted(west, east, south, north):
    return [5, west, east, south, north]


def searched(west, east, south, north):
    return [6, west, east, south, north]


def other(west, east, south, north):
    return [7, west, east, south, north]


def box(i):
    return [8, i]


def may(x, y):
    return [9, x, y]


def box_round():
    return [10]


def area():
    return [11]


def drift():
    return [12]


def ahead(n):
    return [13, n]


def reaches(west, east, south, north):
    return [14, west, east, south, north]


def best():
    return [15]


def centre():
    return [16]


def widest():
    return [17]


def lands():
    return [18]


def shore(i):
    return [19, i]


def told_now():
    return [20]


def back():
    return [21]


def again():
    return [22]


def state():
    return [23]


def row(west, east):
    """A box one place high: on one line it is easy to see what is left of boxes."""
    return (west, east, 0, 0)


# Place 1 is land, and lies within the last box again: the two beside it were the least pair of five.
COVERED = [start(*row(0, 4)), land(*row(1, 1)), other(*row(100, 100)), other(*row(200, 200)),
           other(*row(300, 300))]
ON_LAND = COVERED + [sighted(*row(1, 1))]


def flat(calls):
    return [number for call in calls for number in call]


def split(numbers):
    """The answers one by one, without the counts before them."""
    told = []
    place = 0
    while place < len(numbers):
        behind = place + 1 + numbers[place]
        told.append(numbers[place + 1:behind])
        place = behind
    return told


def told(*calls):
    return split(answers(flat(calls)))


def last(*calls):
    return told(*calls)[-1]


def boxes(*calls):
    """The boxes in their order, behind these calls."""
    found = told(*calls, *[box(i) for i in range(6)])[len(calls):]
    return [tuple(answer[1:]) for answer in found if answer[0] == 0]


# All that is known, and what follows from it.
LOOK = [box(i) for i in range(5)] + [shore(i) for i in range(5)] + [lands(), told_now()]
ASKED = LOOK + [box_round(), area(), drift(), ahead(1), ahead(5), best(), centre(), widest()]


def known(*calls):
    """All that can be asked behind these calls, but for what can be taken back and done again."""
    found = told(*calls, *ASKED, state())[len(calls):]
    return found[:-1] + [found[-1][:4]]


def all_of(*calls):
    """All that can be asked behind these calls, and all at each step back, and at each done again."""
    steps = [told(*calls, *[step, *LOOK, state()] * 21)[len(calls):] for step in (back(), again())]
    return known(*calls), last(*calls, state()), steps


def not_boxes_within(limit):
    """Boxes that are refused: not a box either way, and beyond the limit on each side."""
    beyond = limit + 1
    return [
        (1, 0, 0, 0), (0, 0, 1, 0), (limit, -limit, 0, 0), (0, 0, limit, -limit), (1, 0, 1, 0),
        (-beyond, 0, 0, 0), (0, beyond, 0, 0), (0, 0, -beyond, 0), (0, 0, 0, beyond),
        (beyond, beyond, 0, 0), (-beyond, -beyond, 0, 0), (0, 0, beyond, beyond), (0, 0, -beyond, -beyond),
        (LEAST_SIGNED, GREATEST_SIGNED, LEAST_SIGNED, GREATEST_SIGNED),
        (GREATEST_SIGNED, LEAST_SIGNED, 0, 0),
    ]


def boxes_within(limit):
    """Boxes that are still allowed: one place at each corner, one in the middle, and all there is."""
    corners = [(x, x, y, y) for x in (-limit, limit) for y in (-limit, limit)]
    return corners + [(0, 0, 0, 0), (-limit, limit, -limit, limit), (-limit, limit, 0, 0), (0, 0, -limit, limit)]
