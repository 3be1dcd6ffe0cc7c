"""One box, or two: all places from west to east and from south to north, with the edges."""


class Box:
    """A box, or what could be one if has_places says so; it is never changed once it is made."""

    def __init__(self, west, east, south, north):
        self.west = west
        self.east = east
        self.south = south
        self.north = north


def box_told(given):
    return Box(given[0], given[1], given[2], given[3])


def edges(box):
    return [box.west, box.east, box.south, box.north]


def has_places(box):
    return box.west <= box.east and box.south <= box.north


def is_box_within(box, limit):
    """Whether it is a box at all, and has no place beyond the limit any way."""
    if not has_places(box):
        return False
    return -limit <= box.west and box.east <= limit and -limit <= box.south and box.north <= limit


def is_in(inner, outer):
    return (outer.west <= inner.west and inner.east <= outer.east
            and outer.south <= inner.south and inner.north <= outer.north)


def amount(box):
    """How many places it has."""
    return (box.east - box.west + 1) * (box.north - box.south + 1)


def overlap(one, other):
    """What both have; without places if there is nothing of that."""
    return Box(max(one.west, other.west), min(one.east, other.east),
               max(one.south, other.south), min(one.north, other.north))


def round_both(one, other):
    """The least box in which both are."""
    return Box(min(one.west, other.west), max(one.east, other.east),
               min(one.south, other.south), max(one.north, other.north))


def moved(box, drift):
    """Each edge moved by the drift's own, so the box goes and grows."""
    return Box(box.west + drift.west, box.east + drift.east,
               box.south + drift.south, box.north + drift.north)


def less(box, taken):
    """What is left of a box: west of what is taken, east of it, then between these south and north of it."""
    gone = overlap(box, taken)
    if not has_places(gone):
        return [box]
    sides = [
        Box(box.west, gone.west - 1, box.south, box.north),
        Box(gone.east + 1, box.east, box.south, box.north),
        Box(gone.west, gone.east, box.south, gone.south - 1),
        Box(gone.west, gone.east, gone.north + 1, box.north),
    ]
    return [side for side in sides if has_places(side)]
