"""Tiles: convex polygons with two winds."""

from gustfloor.errors import InvalidCorners, InvalidName, InvalidWinds, NotConvex, SplitSide, UnknownSide
from gustfloor.planes import bearing, cross, difference, is_name, is_point, is_side, is_wind

FEWEST_CORNERS = 3


def check_corners(corners):
    """Raises InvalidCorners unless any value is a list of so many different points as a tile may have."""
    if not isinstance(corners, (list, tuple)):
        raise InvalidCorners(0)
    for at, corner in enumerate(corners):
        if at == Tile.MOST or not is_point(corner) or corner in corners[:at]:
            raise InvalidCorners(at)
    if len(corners) < FEWEST_CORNERS:
        raise InvalidCorners(len(corners))


def edges_of(corners):
    """The pairs of each corner and the corner behind it."""
    return list(zip(corners, corners[1:] + corners[:1]))


def is_convex(corners):
    """Whether the corners, in their order, go counterclockwise round a convex tile."""
    bearings = [bearing(begin, end, corner) for begin, end in edges_of(corners) for corner in corners]
    return min(bearings) == 0 and max(bearings) > 0


def are_winds(given):
    """Whether any value is a list of two winds of which the second one lies to the left of the first one."""
    if not isinstance(given, (list, tuple)) or len(given) != 2:
        return False
    return is_wind(given[0]) and is_wind(given[1]) and cross(given[0], given[1]) > 0


def side_between(begin, end):
    """The side with these two ends."""
    return (begin, end) if begin < end else (end, begin)


def gates_of(corners, winds):
    """For each side, in the order of the corners, whether it lets in; raises SplitSide."""
    gates = {}
    for begin, end in edges_of(corners):
        side = side_between(begin, end)
        along = difference(end, begin)
        one, other = cross(along, winds[0]), cross(along, winds[1])
        if one * other <= 0:
            raise SplitSide(side)
        gates[side] = one > 0
    return gates


class Tile:
    """A convex tile with a name, 3 to 8 corners in counterclockwise order, and two winds."""

    MOST = 8

    def __init__(self, name, corners, winds):
        if not is_name(name):
            raise InvalidName(name)
        check_corners(corners)
        if not is_convex(corners):
            raise NotConvex()
        if not are_winds(winds):
            raise InvalidWinds()
        self._gates = gates_of(corners, winds)
        self._label = name
        self._corners = tuple(corners)
        self._winds = tuple(winds)

    @staticmethod
    def box(name, low, high, winds):
        """The tile whose sides are level or upright, between two of its corners."""
        if not is_name(name):
            raise InvalidName(name)
        if not is_point(low):
            raise InvalidCorners(0)
        if not is_point(high):
            raise InvalidCorners(2)
        return Tile(name, [low, (high[0], low[1]), high, (low[0], high[1])], winds)

    @property
    def label(self):
        return self._label

    @property
    def corners(self):
        return self._corners

    @property
    def winds(self):
        return self._winds

    def sides(self):
        """The list of the sides, in the order of the corners."""
        return list(self._gates)

    def lets_in(self, side):
        """Whether a side lets in; raises UnknownSide(side) for any value that is no side of the tile."""
        # A list cannot be looked up, and a boolean would be taken for a number.
        if not is_side(side) or side not in self._gates:
            raise UnknownSide(side)
        return self._gates[side]

    def with_name(self, name):
        """The tile with another name."""
        return Tile(name, self._corners, self._winds)

    def with_winds(self, first, second):
        """The tile with other winds."""
        return Tile(self._label, self._corners, (first, second))

    def turned(self):
        """The tile with the opposite winds."""
        first, second = self._winds
        return self.with_winds((-first[0], -first[1]), (-second[0], -second[1]))

    def __eq__(self, other):
        return (
            isinstance(other, Tile)
            and self._label == other._label
            and self._corners == other._corners
            and self._winds == other._winds
        )

    def __len__(self):
        return len(self._corners)

    def __repr__(self):
        return f"Tile({self._label}, {len(self._corners)} corners)"
