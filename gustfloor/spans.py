"""Spans, sets of ratios without a gap, and spreads, unions of finitely many spans.

A cut is a pair (ratio, above): the place just above a ratio, or just below it. The ratios of a span are those
between two cuts, and the cuts of a spread, ascending, lead into it and out of it by turns. So whether an end belongs
to a span or not needs no cases of its own where spreads are put together.
"""

from gustfloor.errors import InvalidSpan
from gustfloor.ratios import Ratio

# What belongs to the result: a row for what is out of the first spread or in it, an item likewise for the second one.
IN_EITHER = ((False, True), (True, True))
IN_BOTH = ((False, False), (False, True))
IN_FIRST_ONLY = ((False, False), (True, False))


def are_ends(low, high, has_low, has_high):
    """Whether any two values are, with the two truths, the ends of a span."""
    if not isinstance(low, Ratio) or not isinstance(high, Ratio):
        return False
    return low.is_below(high) or (low == high and has_low and has_high)


def unfolded(floors, whole):
    """The ratio floors[0] + 1 / (floors[1] + 1 / (.. + 1 / whole))."""
    top, bottom = whole, 1
    for floor in floors[::-1]:
        top, bottom = floor * top + bottom, top
    return Ratio(top, bottom)


def simplest_from_zero(span):
    """The simplest ratio of a span that has no ratio below 0."""
    low_top, low_bottom = span.low.top, span.low.bottom
    high_top, high_bottom = span.high.top, span.high.bottom
    has_low, has_high = span.has_low, span.has_high
    floors = []
    while True:
        floor, rest = divmod(low_top, low_bottom)
        whole = floor if rest == 0 and has_low else floor + 1
        if whole * high_bottom < high_top or (whole * high_bottom == high_top and has_high):
            return unfolded(floors, whole)
        # Without a whole number all ratios have the same floor: go on with 1 over what they have above it. If the low
        # end is whole, the new high end is endless: its bottom is 0, so that every number is below it.
        floors.append(floor)
        low_top, low_bottom, high_top, high_bottom = high_bottom, high_top - floor * high_bottom, low_bottom, rest
        has_low, has_high = has_high, has_low


class Span:
    """All ratios between two ratios, each of which may belong to them or not."""

    def __init__(self, low, high, *, has_low=True, has_high=True):
        if not are_ends(low, high, has_low, has_high):
            raise InvalidSpan((low, high))
        self._low = low
        self._high = high
        self._has_low = has_low
        self._has_high = has_high

    @staticmethod
    def only(ratio):
        """The span of one ratio."""
        return Span(ratio, ratio)

    @staticmethod
    def between(low, high):
        """The span without both ends; raises InvalidSpan((low, high))."""
        return Span(low, high, has_low=False, has_high=False)

    @property
    def low(self):
        return self._low

    @property
    def high(self):
        return self._high

    @property
    def has_low(self):
        return self._has_low

    @property
    def has_high(self):
        return self._has_high

    def simplest(self):
        """The ratio with the least bottom, and among these with the least absolute value of the top."""
        zero = Ratio(0)
        if zero in self:
            return zero
        if zero.is_below(self._high):
            return simplest_from_zero(self)
        mirrored = Span(-self._high, -self._low, has_low=self._has_high, has_high=self._has_low)
        return -simplest_from_zero(mirrored)

    def __contains__(self, ratio):
        if not isinstance(ratio, Ratio):
            return False
        if not self._low.is_below(ratio) and not (self._has_low and self._low == ratio):
            return False
        return ratio.is_below(self._high) or (self._has_high and self._high == ratio)

    def __eq__(self, other):
        return (
            isinstance(other, Span)
            and self._low == other._low
            and self._high == other._high
            and self._has_low == other._has_low
            and self._has_high == other._has_high
        )

    def __str__(self):
        return "".join([
            "[" if self._has_low else "(",
            str(self._low),
            ", ",
            str(self._high),
            "]" if self._has_high else ")",
        ])

    def __repr__(self):
        return f"Span({str(self)})"


def cuts_of(spans):
    """The two cuts of each span."""
    cuts = []
    for span in spans:
        cuts.append((span.low, not span.has_low))
        cuts.append((span.high, span.has_high))
    return cuts


def spans_of(cuts):
    """The spans that ascending cuts lead into and out of by turns."""
    return [
        Span(low[0], high[0], has_low=not low[1], has_high=high[1])
        for low, high in zip(cuts[::2], cuts[1::2])
    ]


def cut_is_below(one, other):
    """Whether a cut is below another one."""
    if one[0] == other[0]:
        return other[1] and not one[1]
    return one[0].is_below(other[0])


def passed(one, at, other, to):
    """How far along both lists one is behind the least cut that lies ahead."""
    if to == len(other):
        return at + 1, to
    if at == len(one):
        return at, to + 1
    if cut_is_below(one[at], other[to]):
        return at + 1, to
    if cut_is_below(other[to], one[at]):
        return at, to + 1
    return at + 1, to + 1


def combined(one, other, wanted):
    """The cuts of what is wanted (a table as IN_EITHER) of the spreads of two lists of cuts."""
    cuts = []
    at = to = 0
    inside = False
    while at < len(one) or to < len(other):
        ahead = at
        at, to = passed(one, at, other, to)
        if wanted[at % 2][to % 2] != inside:
            inside = not inside
            cuts.append(one[ahead] if at > ahead else other[to - 1])
    return cuts


def union_cuts(spans):
    """The cuts of the union of spans in any order."""
    if len(spans) < 2:
        return cuts_of(spans)
    half = len(spans) // 2
    return combined(union_cuts(spans[:half]), union_cuts(spans[half:]), IN_EITHER)


class Spread:
    """A set of ratios that consists of finitely many spans, as few as possible and ascending."""

    def __init__(self, spans=()):
        for span in spans:
            if not isinstance(span, Span):
                raise InvalidSpan(span)
        self._cuts = union_cuts(spans)
        self._spans = spans_of(self._cuts)

    @classmethod
    def of(cls, *spans):
        """The union of the spans; raises InvalidSpan(value) with the first value that is no span."""
        return cls(spans)

    def spans(self):
        """The list of the spans."""
        return list(self._spans)

    def walk(self):
        """The spans, one by one."""
        yield from self._spans

    def __or__(self, other):
        return Spread(spans_of(combined(self._cuts, other._cuts, IN_EITHER)))

    def __and__(self, other):
        return Spread(spans_of(combined(self._cuts, other._cuts, IN_BOTH)))

    def __sub__(self, other):
        return Spread(spans_of(combined(self._cuts, other._cuts, IN_FIRST_ONLY)))

    def within(self, other):
        """Whether each ratio is one of the other spread."""
        return not combined(self._cuts, other._cuts, IN_FIRST_ONLY)

    def __contains__(self, ratio):
        return any([ratio in span for span in self._spans])

    def __len__(self):
        return len(self._spans)

    def __bool__(self):
        return bool(self._spans)

    def __eq__(self, other):
        return isinstance(other, Spread) and self._spans == other._spans

    def __str__(self):
        if not self._spans:
            return "none"
        return " ".join([str(span) for span in self._spans])

    def __repr__(self):
        return f"Spread({len(self._spans)} spans)"
