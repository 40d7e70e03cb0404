"""Decisions: papers that answer a question, and where two floors differ."""

from gustfloor.errors import InvalidPlace
from gustfloor.papers import Barred, Resting, Rolling, Way
from gustfloor.reaching import by_side, can_reach, check_places, have, reached
from gustfloor.rolling import rolling_rounds
from gustfloor.trails import Trail
from gustfloor.ways import check_count, shortest_way


def decide(floor, start, goal, *, most=400):
    """A Way with the fewest pieces, or a Barred; raises TooFar(most) if each way has more pieces than most."""
    check_places(floor, [start, goal])
    check_count(most)
    rows = reached(floor, start)
    if not have(by_side(rows), goal):
        return Barred(floor, start, goal, rows)
    return Way(floor, start, goal, shortest_way(floor, start, goal, most))


def way_to_one(floor, start, choices):
    """A way that leads into one of the choices (loop, span), with the fewest pieces, and this choice."""
    trail = Trail(floor, start)
    while True:
        for loop, span in choices:
            ratio = trail.newest_within(loop[0], span)
            if ratio is not None:
                return trail.way_to((loop[0], ratio)), loop, span
        trail.go_on()


def decide_rolling(floor, start):
    """A Rolling, or a Resting; raises InvalidPlace(start) for any value that is no place."""
    rows = reached(floor, start)
    spreads = by_side(rows)
    choices = list(rolling_rounds(floor, spreads))
    if not choices:
        return Resting(floor, start, rows)
    places, loop, span = way_to_one(floor, start, choices)
    return Rolling(floor, start, places, loop, span)


def unlike(one, other, places):
    """The least pair of indexes of places of which just one floor leads from the first to the second one, or None."""
    for place in places:
        if not one.is_place(place) or not other.is_place(place):
            raise InvalidPlace(place)
    for at, start in enumerate(places):
        first, second = can_reach(one, start, *places), can_reach(other, start, *places)
        for to in range(len(places)):
            if first[to] != second[to]:
                return at, to
    return None
