"""The common parts and the ends of spans, by cuts.

A cut is a pair (ratio, above), as in gustfloor.spans: the place just above a ratio, or just below it. A span is what
lies between its low cut and its high cut.
"""

from gustfloor.ratios import Ratio
from gustfloor.spans import Span, cut_is_below


def low_cut(span):
    """The cut below which no ratio of a span lies."""
    return span.low, not span.has_low


def high_cut(span):
    """The cut above which no ratio of a span lies."""
    return span.high, span.has_high


def lesser(one, other):
    """The lower one of two cuts."""
    return other if cut_is_below(other, one) else one


def greater(one, other):
    """The higher one of two cuts."""
    return other if cut_is_below(one, other) else one


def mirrored(cut):
    """The cut that lies as far on the other side of 0."""
    return -cut[0], not cut[1]


def between_cuts(low, high):
    """The span between two cuts, or None if there is no ratio between them."""
    if not cut_is_below(low, high):
        return None
    return Span(low[0], high[0], has_low=not low[1], has_high=high[1])


def common(one, other):
    """The common part of two spans, or None."""
    return between_cuts(greater(low_cut(one), low_cut(other)), lesser(high_cut(one), high_cut(other)))


def unit():
    """The ratios of the places of a side: those between 0 and 1."""
    return Span.between(Ratio(0), Ratio(1))


def places_between(low, high):
    """The ratios of places that lie between two cuts, as a Span, or None."""
    if low[0].top <= 0:
        low = (Ratio(0), True)
    if high[0].top >= high[0].bottom:
        high = (Ratio(1), False)
    return between_cuts(low, high)


def places_of(span):
    """The ratios of places that a span has, as a Span, or None."""
    return places_between(low_cut(span), high_cut(span))


def touch(one, other):
    """Whether there is no gap between two spans."""
    return not cut_is_below(high_cut(one), low_cut(other)) and not cut_is_below(high_cut(other), low_cut(one))
