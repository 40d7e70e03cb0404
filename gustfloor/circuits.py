"""Circuits: links behind one another that lead back to the side at which they begin."""

from gustfloor.cuts import between_cuts, common, high_cut, lesser, low_cut, mirrored, places_of, touch, unit
from gustfloor.lines import Line
from gustfloor.ratios import Ratio
from gustfloor.spans import Spread, cut_is_below


def carried_along(links, span):
    """What link behind link leads to from a span, as a Span, or None."""
    for link in links:
        if span is not None:
            span = link.carried(span)
    return span


def room_of(links):
    """The ratios of the first side from which steps lead along all links, as a Span, or None."""
    return carried_along([link.backward() for link in links[::-1]], unit())


def lines_along(links):
    """The lines between which all links together lead, where no end of a side cuts the steps."""
    low = high = Line(Ratio(1), Ratio(0))
    for link in links:
        low, high = link.lines_after(low, high)
    return low, high


def farthest(line, cut, room, home):
    """The least cut below which a span, its image, the image of this one and all further ones lie.

    The line moves the high ends of the spans, which leave no gap. Room and home are cuts: the one cuts each span
    before it is moved, the other one cuts its image.
    """
    if not cut_is_below(cut, lesser(line.moved(lesser(cut, room)), home)):
        return cut
    edge = lesser(room, home)
    if line.is_slack():
        # The ends come as near as one likes to the ratio at which the line rests, and never reach it.
        limit = (line.resting(), False)
        if not cut_is_below(edge, limit):
            return limit
    return lesser(line.moved(edge), home)


class Circuit:
    """How going once round along links leads from ratios of the first side to ratios of this side.

    From the ratio x of the room it leads to the ratios of home that are not below the low line at x and not above the
    high line at x. In the document home is J, and the lines are A and B.
    """

    def __init__(self, links, room):
        self._room = room
        self._home = carried_along(links[1:], unit())
        self._low, self._high = lines_along(links)

    def sinks(self, ratio):
        """Whether going round leads from a ratio to lesser ones only."""
        return self._high.value_at(ratio).is_below(ratio)

    def climbs(self, ratio):
        """Whether going round leads from a ratio to greater ones only."""
        return ratio.is_below(self._low.value_at(ratio))

    def kept_part(self):
        """The ratios of the room and of home from which one can go round for ever, as a Span, or None."""
        both = common(self._room, self._home)
        if both is None:
            return None
        low, high = low_cut(both), high_cut(both)
        if self.sinks(both.low):
            if not self._high.is_steep():
                return None
            low = (self._high.resting(), False)
        if self.climbs(both.high):
            if not self._low.is_steep():
                return None
            high = (self._low.resting(), True)
        return between_cuts(low, high)

    def keeps(self, span):
        """Whether a span is within the room and home, and going round leads from each of its ratios into it again."""
        inside = common(self._room, self._home)
        if inside is None or common(span, inside) != span:
            return False
        return not self.sinks(span.low) and not self.climbs(span.high)

    def image(self, span):
        """What can be reached from a span by going round once, as a Span, or None."""
        inside = common(span, self._room)
        if inside is None:
            return None
        return common(between_cuts(self._low.moved(low_cut(inside)), self._high.moved(high_cut(inside))), self._home)

    def sweep(self, span):
        """What can be reached from a span by going round any number of times, as a Spread."""
        inside = places_of(span)
        if inside is None:
            return Spread()
        spans = [inside]
        ahead = self.image(inside)
        while ahead is not None and not touch(spans[-1], ahead):
            spans.append(ahead)
            ahead = self.image(ahead)
        if ahead is not None:
            spans.append(self.grown(spans[-1]))
        return Spread(spans)

    def grown(self, span):
        """The union of a span that leaves no gap to its image, of this image, of its image, and so on."""
        high = farthest(self._high, high_cut(span), high_cut(self._room), high_cut(self._home))
        # The low ends move as high ends do, seen in a mirror.
        low = farthest(
            self._low.mirrored(),
            mirrored(low_cut(span)),
            mirrored(low_cut(self._room)),
            mirrored(low_cut(self._home)),
        )
        return between_cuts(mirrored(low), high)


def circuit_along(web, loop):
    """The circuit along the sides of a round, by the links of a web."""
    links = [web[side][other] for side, other in zip(loop, loop[1:] + loop[:1])]
    return Circuit(links, room_of(links))
