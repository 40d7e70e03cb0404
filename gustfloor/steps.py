"""Steps: what a single piece leads to, and from what."""

from gustfloor.errors import UnknownSide
from gustfloor.links import link_between, links_from


def next_sides(floor, side):
    """The ascending list of the sides to which a piece leads from some place of a side."""
    return list(links_from(floor, side))


def known_link(floor, side, other):
    """The link from one side to another one, or None; raises UnknownSide with the first one that is no side."""
    for value in (side, other):
        if value not in floor:
            raise UnknownSide(value)
    return link_between(floor, side, other)


def step(floor, side, other, span):
    """What pieces from the ratios of a span on a side lead to on another side, as a Span, or None."""
    link = known_link(floor, side, other)
    return None if link is None else link.carried(span)


def back_step(floor, side, other, span):
    """The ratios of a side from which pieces lead into a span on the other side, as a Span, or None."""
    link = known_link(floor, side, other)
    return None if link is None else link.backward().carried(span)
