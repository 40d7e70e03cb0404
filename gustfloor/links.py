"""Links: how pieces lead across a tile, from the places of one side to those of another one."""

from gustfloor.cuts import high_cut, low_cut, places_between, places_of, unit
from gustfloor.lines import Line
from gustfloor.planes import cross, difference
from gustfloor.ratios import Ratio
from gustfloor.spans import Spread


class Link:
    """The steps from one side to another one: from each ratio to those from the low line to the high line."""

    def __init__(self, across, low, high):
        self._across = across
        self._low = low
        self._high = high

    def across(self):
        """The name of the tile."""
        return self._across

    def rises(self):
        """Whether greater ratios lead to greater ones."""
        return self._low.rises()

    def carried(self, span):
        """What the steps from the ratios of a span lead to, as a Span, or None."""
        inside = places_of(span)
        if inside is None:
            return None
        low, high = low_cut(inside), high_cut(inside)
        if not self.rises():
            low, high = high, low
        return places_between(self._low.moved(low), self._high.moved(high))

    def carried_spread(self, spread):
        """What the steps from the ratios of a spread lead to, as a Spread."""
        carried = [self.carried(span) for span in spread.walk()]
        return Spread([span for span in carried if span is not None])

    def backward(self):
        """The link from the other side back to the one."""
        low, high = self._low.inverse(), self._high.inverse()
        return Link(self._across, high, low) if self.rises() else Link(self._across, low, high)

    def lines_after(self, low, high):
        """The low and the high line of this link behind others whose low and high line are given."""
        if self.rises():
            return self._low.after(low), self._high.after(high)
        return self._low.after(high), self._high.after(low)


def line_along(wind, side, other):
    """The line that tells for each ratio of a side where a ball in the wind meets the line through the other side."""
    aside = cross(wind, difference(other[1], other[0]))
    slope = Ratio(cross(wind, difference(side[1], side[0])), aside)
    return Line(slope, Ratio(cross(wind, difference(side[0], other[0])), aside))


def link_across(tile, side, other):
    """The link across a tile from a side that lets in to one that lets out."""
    one, two = [line_along(wind, side, other) for wind in tile.winds]
    # The two lines meet nowhere within the side, so any of its ratios shows which one is the low one.
    middle = Ratio(1, 2)
    if one.value_at(middle).is_below(two.value_at(middle)):
        return Link(tile.label, one, two)
    return Link(tile.label, two, one)


def tile_between(floor, side, other):
    """The tile of a floor that one side lets into and the other one out of, none of them a wall, or None."""
    if floor.kind(other) == "wall":
        return None
    for name in floor.into(side):
        if name in floor.tiles_at(other) and name not in floor.into(other):
            return floor.tile(name)
    return None


def link_between(floor, side, other):
    """The link from one side of a floor to another one, or None if no tile leads from the one to the other."""
    tile = tile_between(floor, side, other)
    return None if tile is None else link_across(tile, side, other)


def links_from(floor, side):
    """The dict of the links from a side by the sides to which pieces lead from it, ascending."""
    links = {}
    for name in floor.into(side):
        for other in floor.tile(name).sides():
            link = link_between(floor, side, other)
            if link is not None and link.carried(unit()) is not None:
                links[other] = link
    return {other: links[other] for other in sorted(list(links))}


def web_of(floor):
    """For each side of a floor the dict of the links from it."""
    return {side: links_from(floor, side) for side in floor.sides()}
