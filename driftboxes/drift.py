"""The calls on one object, handed in as one list of whole numbers, and their answers.

Each wm_ function is handed the course and the call's own numbers; it answers a list: the number, then those of out.
"""

from driftboxes.boxes import Box, amount, box_told, edges, is_box_within
from driftboxes.course import Course
from driftboxes.several import at_most_four, is_in_any, narrowed, round_all, tidy, without

NONE_SUCH = -2
NOT_ALLOWED = -22
NO_ROOM = -28
NOWHERE = -33
TOO_LATE = -75

FARTHEST_TOLD = 1000000
FARTHEST_SOUGHT = 3000000
FASTEST_CURRENT = 100
FASTEST_WIND = 1000
MOST_SHARE = 20
MOST_LANDS = 4
MOST_HOURS = 24
FARTHEST_AHEAD = 48
LAST_HOUR = 1000


def wm_start(course, given):
    box = box_told(given)
    lo = given[4]
    hi = given[5]
    if not is_box_within(box, FARTHEST_TOLD) or lo > hi or hi > MOST_SHARE:
        return [NOT_ALLOWED]
    course.begin(box, lo, hi)
    return [0]


def wm_land(course, given):
    land = box_told(given)
    if not is_box_within(land, FARTHEST_TOLD):
        return [NOT_ALLOWED]
    if len(course.sea.lands) == MOST_LANDS:
        return [NO_ROOM]
    lands = course.sea.lands + [land]
    left = without(course.sea.boxes, lands)
    if not left:
        return [NOWHERE]
    changed = course.sea.copied()
    changed.lands = lands
    changed.boxes = at_most_four(left)
    course.change(changed)
    return [len(lands) - 1]


def wm_current(course, given):
    told = box_told(given)
    if not is_box_within(told, FASTEST_CURRENT):
        return [NOT_ALLOWED]
    before = course.sea.current
    changed = course.sea.copied()
    changed.current = told
    course.change(changed)
    return [0] + edges(before)


def wm_wind(course, given):
    told = box_told(given)
    if not is_box_within(told, FASTEST_WIND):
        return [NOT_ALLOWED]
    before = course.sea.wind
    changed = course.sea.copied()
    changed.wind = told
    course.change(changed)
    return [0] + edges(before)


def are_hours(n):
    return 1 <= n <= MOST_HOURS


def wm_hours(course, given):
    n = given[0]
    if not are_hours(n):
        return [NOT_ALLOWED]
    hour = course.sea.hour + n
    if hour > LAST_HOUR:
        return [TOO_LATE]
    boxes = course.sea.boxes_after(n)
    if not boxes:
        return [NOWHERE]
    changed = course.sea.copied()
    changed.hour = hour
    changed.boxes = boxes
    course.change(changed)
    return [hour, len(boxes)]


def wm_sighted(course, given):
    sighting = box_told(given)
    if not is_box_within(sighting, FARTHEST_SOUGHT):
        return [NOT_ALLOWED]
    left = narrowed(course.sea.boxes, sighting)
    if not left:
        return [NOWHERE]
    changed = course.sea.copied()
    changed.boxes = tidy(left)
    changed.sightings += 1
    course.change(changed)
    return [len(changed.boxes)]


def wm_searched(course, given):
    search = box_told(given)
    if not is_box_within(search, FARTHEST_SOUGHT):
        return [NOT_ALLOWED]
    left = without(course.sea.boxes, [search])
    if not left:
        return [NOWHERE]
    changed = course.sea.copied()
    changed.boxes = at_most_four(left)
    course.change(changed)
    return [len(changed.boxes)]


def wm_other(course, given):
    other = box_told(given)
    sea = course.sea
    if not is_box_within(other, FARTHEST_TOLD):
        return [NOT_ALLOWED]
    if not without([other], sea.lands):
        return [NOWHERE]
    changed = sea.copied()
    changed.boxes = at_most_four(without(sea.boxes + [other], sea.lands))
    course.change(changed)
    return [len(changed.boxes)]


def edges_of(boxes, i):
    """The answer to the call for the box with this number."""
    if i >= len(boxes):
        return [NONE_SUCH]
    return [0] + edges(boxes[i])


def wm_box(course, given):
    return edges_of(course.sea.boxes, given[0])


def wm_may(course, given):
    place = Box(given[0], given[0], given[1], given[1])
    return [1 if is_in_any(place, course.sea.boxes) else 0]


def wm_round(course, given):
    return [0] + edges(round_all(course.sea.boxes))


def wm_area(course, given):
    boxes = course.sea.boxes
    return [len(boxes), sum([amount(box) for box in boxes])]


def wm_drift(course, given):
    return [0] + edges(course.sea.hour_drift())


def wm_ahead(course, given):
    n = given[0]
    if not are_hours(n):
        return [NOT_ALLOWED]
    boxes = course.sea.boxes_after(n)
    if not boxes:
        return [NOWHERE]
    return [len(boxes)] + edges(round_all(boxes))


def wm_reaches(course, given):
    goal = box_told(given)
    if not is_box_within(goal, FARTHEST_SOUGHT):
        return [NOT_ALLOWED]
    for n in range(FARTHEST_AHEAD + 1):
        if narrowed(course.sea.boxes_after(n), goal):
            return [n]
    return [NOWHERE]


def wm_best(course, given):
    amounts = [amount(box) for box in course.sea.boxes]
    least = min(amounts)
    return [amounts.index(least), least]


def wm_centre(course, given):
    whole = round_all(course.sea.boxes)
    return [0, (whole.west + whole.east) // 2, (whole.south + whole.north) // 2]


def wm_widest(course, given):
    whole = round_all(course.sea.boxes)
    return [0, whole.east - whole.west, whole.north - whole.south]


def wm_lands(course, given):
    sea = course.sea
    return [len(sea.lands), sea.lo, sea.hi]


def wm_shore(course, given):
    return edges_of(course.sea.lands, given[0])


def wm_told(course, given):
    return [0] + edges(course.sea.current) + edges(course.sea.wind)


def wm_back(course, given):
    if not course.earlier:
        return [NONE_SUCH]
    course.take_back()
    return [len(course.earlier)]


def wm_again(course, given):
    if not course.later:
        return [NONE_SUCH]
    course.do_again()
    return [len(course.later)]


def wm_state(course, given):
    sea = course.sea
    return [sea.hour, len(sea.boxes), len(sea.lands), sea.sightings, len(course.earlier), len(course.later)]


# By the call's number: how many numbers it is handed, and what answers it.
CALLS = (
    (6, wm_start),
    (4, wm_land),
    (4, wm_current),
    (4, wm_wind),
    (1, wm_hours),
    (4, wm_sighted),
    (4, wm_searched),
    (4, wm_other),
    (1, wm_box),
    (2, wm_may),
    (0, wm_round),
    (0, wm_area),
    (0, wm_drift),
    (1, wm_ahead),
    (4, wm_reaches),
    (0, wm_best),
    (0, wm_centre),
    (0, wm_widest),
    (0, wm_lands),
    (1, wm_shore),
    (0, wm_told),
    (0, wm_back),
    (0, wm_again),
    (0, wm_state),
)


def answers(calls):
    """For each call, in order: how many numbers are answered, then these."""
    course = Course()
    answered = []
    place = 0
    while place < len(calls):
        call = CALLS[calls[place]]
        behind = place + 1 + call[0]
        answer = call[1]
        numbers = answer(course, calls[place + 1:behind])
        answered.append(len(numbers))
        answered.extend(numbers)
        place = behind
    return answered
