"""What is known of the thing that drifts, and how an hour changes it."""

from driftboxes.boxes import Box, moved
from driftboxes.several import at_most_four, without


def least_taken(low, high, lo, hi):
    """The least that any wind told drives it, any share told of it taken, in whole steps rounded down."""
    return min(low * lo, low * hi, high * lo, high * hi) // 100


def most_taken(low, high, lo, hi):
    """The greatest likewise, rounded up."""
    return -(-max(low * lo, low * hi, high * lo, high * hi) // 100)


class Sea:
    """The hour, the boxes, the land, currents and winds, how often it was sighted, from where to where it takes wind.

    A change is made to a copy, never to the sea itself or to one of its lists: so a call that is refused leaves all
    as it was, and what was known before a change can be put back.
    """

    def __init__(self, boxes, lo, hi):
        self.hour = 0
        self.boxes = boxes
        self.lands = []
        self.current = Box(0, 0, 0, 0)
        self.wind = Box(0, 0, 0, 0)
        self.sightings = 0
        self.lo = lo
        self.hi = hi
        self.ahead = []

    def copied(self):
        """One like it, to be changed; what lies ahead of it is reckoned anew."""
        same = Sea(self.boxes, self.lo, self.hi)
        same.hour = self.hour
        same.lands = self.lands
        same.current = self.current
        same.wind = self.wind
        same.sightings = self.sightings
        return same

    def hour_drift(self):
        """The drift of an hour, as told now, as a box."""
        current = self.current
        wind = self.wind
        return Box(current.west + least_taken(wind.west, wind.east, self.lo, self.hi),
                   current.east + most_taken(wind.west, wind.east, self.lo, self.hi),
                   current.south + least_taken(wind.south, wind.north, self.lo, self.hi),
                   current.north + most_taken(wind.south, wind.north, self.lo, self.hi))

    def boxes_after(self, n):
        """The boxes n hours from now, if nothing is told; none if it would be nowhere then or on the way."""
        # Kept from one asking to the next, for many calls may look at the same hours ahead.
        if not self.ahead:
            self.ahead.append(self.boxes)
        drift = self.hour_drift()
        while len(self.ahead) <= n:
            gone = [moved(box, drift) for box in self.ahead[-1]]
            # Brought to four every hour, not at the end alone: else hours in pieces would not be the same.
            self.ahead.append(at_most_four(without(gone, self.lands)))
        return self.ahead[n]
