"""The calls on one object, handed in as one list of whole numbers, and their answers.

Each wm_ function is handed the sea and the call's own numbers; it answers a list: the number, then those of out.
"""

from driftboxes.boxes import Box, amount, box_told, edges, is_box_within
from driftboxes.sea import Sea
from driftboxes.several import at_most_four, is_in_any, narrowed, round_all, tidy, without

NONE_SUCH = -2
NOT_ALLOWED = -22
NO_ROOM = -28
NOWHERE = -33
TOO_LATE = -75

FARTHEST_TOLD = 1000000
FARTHEST_SOUGHT = 3000000
FASTEST_CURRENT = 100
FASTEST_WIND = 1000
MOST_SHARE = 20
MOST_LANDS = 4
MOST_HOURS = 24
LAST_HOUR = 1000


def wm_start(sea, given):
    box = box_told(given)
    lo = given[4]
    hi = given[5]
    if not is_box_within(box, FARTHEST_TOLD) or lo > hi or hi > MOST_SHARE:
        return [NOT_ALLOWED]
    sea.begin(box, lo, hi)
    return [0]


def wm_land(sea, given):
    land = box_told(given)
    if not is_box_within(land, FARTHEST_TOLD):
        return [NOT_ALLOWED]
    if len(sea.lands) == MOST_LANDS:
        return [NO_ROOM]
    lands = sea.lands + [land]
    left = without(sea.boxes, lands)
    if not left:
        return [NOWHERE]
    sea.lands = lands
    sea.boxes = at_most_four(left)
    return [len(lands) - 1]


def wm_current(sea, given):
    told = box_told(given)
    if not is_box_within(told, FASTEST_CURRENT):
        return [NOT_ALLOWED]
    before = sea.current
    sea.current = told
    return [0] + edges(before)


def wm_wind(sea, given):
    told = box_told(given)
    if not is_box_within(told, FASTEST_WIND):
        return [NOT_ALLOWED]
    before = sea.wind
    sea.wind = told
    return [0] + edges(before)


def wm_hours(sea, given):
    n = given[0]
    if n < 1 or n > MOST_HOURS:
        return [NOT_ALLOWED]
    if sea.hour + n > LAST_HOUR:
        return [TOO_LATE]
    boxes = sea.boxes_after(n)
    if not boxes:
        return [NOWHERE]
    sea.boxes = boxes
    sea.hour += n
    return [sea.hour, len(boxes)]


def wm_sighted(sea, given):
    sighting = box_told(given)
    if not is_box_within(sighting, FARTHEST_SOUGHT):
        return [NOT_ALLOWED]
    left = narrowed(sea.boxes, sighting)
    if not left:
        return [NOWHERE]
    sea.boxes = tidy(left)
    return [len(sea.boxes)]


def wm_searched(sea, given):
    search = box_told(given)
    if not is_box_within(search, FARTHEST_SOUGHT):
        return [NOT_ALLOWED]
    left = without(sea.boxes, [search])
    if not left:
        return [NOWHERE]
    sea.boxes = at_most_four(left)
    return [len(sea.boxes)]


def wm_other(sea, given):
    other = box_told(given)
    if not is_box_within(other, FARTHEST_TOLD):
        return [NOT_ALLOWED]
    if not without([other], sea.lands):
        return [NOWHERE]
    sea.boxes = at_most_four(without(sea.boxes + [other], sea.lands))
    return [len(sea.boxes)]


def wm_box(sea, given):
    i = given[0]
    if i >= len(sea.boxes):
        return [NONE_SUCH]
    return [0] + edges(sea.boxes[i])


def wm_may(sea, given):
    place = Box(given[0], given[0], given[1], given[1])
    return [1 if is_in_any(place, sea.boxes) else 0]


def wm_round(sea, given):
    return [0] + edges(round_all(sea.boxes))


def wm_area(sea, given):
    return [len(sea.boxes), sum([amount(box) for box in sea.boxes])]


# By the call's number: how many numbers it is handed, and what answers it.
CALLS = (
    (6, wm_start),
    (4, wm_land),
    (4, wm_current),
    (4, wm_wind),
    (1, wm_hours),
    (4, wm_sighted),
    (4, wm_searched),
    (4, wm_other),
    (1, wm_box),
    (2, wm_may),
    (0, wm_round),
    (0, wm_area),
)


def answers(calls):
    """For each call, in order: how many numbers are answered, then these."""
    sea = Sea()
    answered = []
    place = 0
    while place < len(calls):
        call = CALLS[calls[place]]
        behind = place + 1 + call[0]
        answer = call[1]
        numbers = answer(sea, calls[place + 1:behind])
        answered.append(len(numbers))
        answered.extend(numbers)
        place = behind
    return answered
