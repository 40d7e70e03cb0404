"""A slow second telling of points 8 to 12 of the document, in Python's fractions, to compare with."""

from fractions import Fraction

from gustfloor.planes import cross
from gustfloor.ratios import Ratio
from gustfloor.spans import Span


def fraction(ratio):
    return Fraction(ratio.top, ratio.bottom)


def ratio(given):
    return Ratio(given.numerator, given.denominator)


def ends(span):
    """A span as a tuple (low, has low, high, has high) of fractions, or None."""
    return None if span is None else (fraction(span.low), span.has_low, fraction(span.high), span.has_high)


def span_of(row):
    return None if row is None else Span(ratio(row[0]), ratio(row[2]), has_low=row[1], has_high=row[3])


def cut_off(row):
    """What lies between 0 and 1, or None."""
    low, has_low, high, has_high = row
    if low <= 0:
        low, has_low = Fraction(0), False
    if high >= 1:
        high, has_high = Fraction(1), False
    if low > high or (low == high and not (has_low and has_high)):
        return None
    return low, has_low, high, has_high


class Model:
    def __init__(self, floor):
        self.floor = floor
        self.into = {}
        self.out = {}
        for tile in floor.tiles():
            for begin, end in zip(tile.corners, tile.corners[1:] + tile.corners[:1]):
                side = tuple(sorted((begin, end)))
                if side in floor.walls():
                    continue
                along = (end[0] - begin[0], end[1] - begin[1])
                (self.into if cross(along, tile.winds[0]) > 0 else self.out).setdefault(side, []).append(tile)

    def tile(self, side, other):
        """The tile into which the side lets and out of which the other one lets, or None."""
        both = [tile for tile in self.into.get(side, []) if tile in self.out.get(other, [])]
        return both[0] if both else None

    def point(self, side, at):
        return tuple(side[0][k] + at * (side[1][k] - side[0][k]) for k in (0, 1))

    def is_piece(self, side, at, other, to):
        tile = self.tile(side, other)
        if tile is None or not 0 < at < 1 or not 0 < to < 1:
            return False
        one, two = self.point(side, at), self.point(other, to)
        way = (two[0] - one[0], two[1] - one[1])
        return cross(tile.winds[0], way) >= 0 and cross(way, tile.winds[1]) >= 0

    def met_along(self, wind, side, at, other):
        """Where the line along a wind from a point meets the line through the other side."""
        x, y = self.point(side, at)
        (a, b), (c, d) = other
        return Fraction(cross(wind, (x - a, y - b))) / cross(wind, (c - a, d - b))

    def met(self, side, at, other):
        """Where the lines along both winds meet it, ascending."""
        return sorted(self.met_along(wind, side, at, other) for wind in self.tile(side, other).winds)

    def step(self, side, other, row):
        if row is None or self.tile(side, other) is None:
            return None
        row = cut_off(row)
        if row is None:
            return None
        low, has_low, high, has_high = row
        values = [(value, has_low) for value in self.met(side, low, other)]
        values += [(value, has_high) for value in self.met(side, high, other)]
        least, most = min(value for value, _ in values), max(value for value, _ in values)
        has_least = any(has for value, has in values if value == least)
        has_most = any(has for value, has in values if value == most)
        return cut_off((least, has_least, most, has_most))

    def along(self, sides, row):
        """What the steps from side to side lead to."""
        for side, other in zip(sides, sides[1:]):
            row = self.step(side, other, row)
        return row

    def image(self, loop, row):
        return self.along(loop + loop[:1], row)

    def rounds(self):
        """All rounds, ascending."""
        sides = self.floor.sides()
        ahead = {side: [other for other in sides if self.tile(side, other)] for side in sides}
        found = []

        def go(loop, row):
            for other in ahead[loop[-1]]:
                there = self.step(loop[-1], other, row)
                if there is not None and other == loop[0]:
                    found.append(loop)
                elif there is not None and other not in loop:
                    go(loop + (other,), there)

        for side in sides:
            go((side,), (Fraction(0), False, Fraction(1), False))
        return sorted(found)
