"""Pieces, ways, and the ways with the fewest pieces."""

from gustfloor.errors import InvalidCount
from gustfloor.links import tile_between
from gustfloor.planes import cross
from gustfloor.ratios import is_number
from gustfloor.reaching import can_reach, check_places
from gustfloor.trails import Trail


def direction(floor, one, other):
    """A pair of numbers that points from a place to another one."""
    begin, end = floor.point(one), floor.point(other)
    right, up = end[0] - begin[0], end[1] - begin[1]
    return right.top * up.bottom, up.top * right.bottom


def is_piece(floor, one, other):
    """Whether a piece leads from a place to another one; raises InvalidPlace with the first value that is none."""
    check_places(floor, [one, other])
    tile = tile_between(floor, one[0], other[0])
    if tile is None:
        return False
    course = direction(floor, one, other)
    return cross(tile.winds[0], course) >= 0 and cross(course, tile.winds[1]) >= 0


def is_way(floor, value):
    """Whether any value is a list of one or more places in which a piece leads from each one to the next one."""
    if not isinstance(value, (list, tuple)) or len(value) == 0:
        return False
    if not all([floor.is_place(place) for place in value]):
        return False
    return all([is_piece(floor, one, other) for one, other in zip(value, value[1:])])


def check_count(most):
    """Raises InvalidCount unless any value is a number of at least 0."""
    if not is_number(most) or most < 0:
        raise InvalidCount(most)


def shortest_way(floor, start, goal, most):
    """A way with the fewest pieces to a goal that can be reached; raises TooFar(most)."""
    trail = Trail(floor, start)
    trail.go_on_to(goal, most)
    return trail.way_to(goal)


def fewest(floor, start, goal):
    """The least number of pieces of a way, or None if there is no way."""
    if not can_reach(floor, start, goal)[0]:
        return None
    trail = Trail(floor, start)
    trail.go_on_to(goal, None)
    return trail.pieces()


def find_way(floor, start, goal, *, most=400):
    """A way with the fewest pieces, or None if there is no way; raises TooFar(most) if it has more than most."""
    check_places(floor, [start, goal])
    check_count(most)
    if not can_reach(floor, start, goal)[0]:
        return None
    return shortest_way(floor, start, goal, most)
