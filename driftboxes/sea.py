"""What is known of the thing that drifts, and how an hour changes it."""

from driftboxes.boxes import Box, moved
from driftboxes.several import at_most_four, without


def least_taken(low, high, lo, hi):
    """The least that any wind told drives it, any share told of it taken, in whole steps rounded down."""
    return min(low * lo, low * hi, high * lo, high * hi) // 100


def most_taken(low, high, lo, hi):
    """The greatest likewise, rounded up."""
    return -(-max(low * lo, low * hi, high * lo, high * hi) // 100)


class Sea:
    """The hour, the boxes, the land, currents and winds, and from where to where it takes the wind.

    Its lists and boxes are never changed, only others put in their place: so a call that is refused leaves
    all as it was.
    """

    def __init__(self):
        # Nothing is asked ahead of a start that isn't refused: which box stands here until then is all one.
        self.begin(Box(0, 0, 0, 0), 0, 0)

    def begin(self, box, lo, hi):
        self.hour = 0
        self.boxes = [box]
        self.lands = []
        self.current = Box(0, 0, 0, 0)
        self.wind = Box(0, 0, 0, 0)
        self.lo = lo
        self.hi = hi

    def hour_drift(self):
        """The drift of an hour, as told now, as a box."""
        current = self.current
        wind = self.wind
        return Box(current.west + least_taken(wind.west, wind.east, self.lo, self.hi),
                   current.east + most_taken(wind.west, wind.east, self.lo, self.hi),
                   current.south + least_taken(wind.south, wind.north, self.lo, self.hi),
                   current.north + most_taken(wind.south, wind.north, self.lo, self.hi))

    def boxes_after(self, n):
        """The boxes n hours from now, if nothing is told; none if it would be nowhere."""
        drift = self.hour_drift()
        boxes = self.boxes
        for hour in range(n):
            gone = [moved(box, drift) for box in boxes]
            # Brought to four every hour, not at the end alone: else hours in pieces would not be the same.
            boxes = at_most_four(without(gone, self.lands))
        return boxes
