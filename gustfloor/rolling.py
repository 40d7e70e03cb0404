"""Rounds that can be gone for ever within spreads that no step leads out of."""

from gustfloor.circuits import circuit_along
from gustfloor.links import web_of
from gustfloor.rounds import loops_from
from gustfloor.spans import Spread


def web_from(web, first, spreads):
    """The links of a web between the sides that have a spread which is not empty, without sides before the first."""
    return {
        side: {other: link for other, link in web[side].items() if first <= other and spreads.get(other)}
        for side in web
        if first <= side and spreads.get(side)
    }


def rolling_rounds(floor, spreads):
    """The pairs (loop, span) of rounds and their kept spans that meet the spread of the first side of the round.

    No step may lead out of the spreads, which are told by their sides. Then not all rounds need to be tried. A ball
    that crosses its own way can come back to where it was, and one that never does goes on along one round; so if it
    can roll for ever, then also along a round that crosses no tile twice. And as it stays within the spreads, it is
    found at each side of such a round, so that one of them is enough: the least one.
    """
    web = web_of(floor)
    for side in web:
        spread = spreads.get(side, Spread())
        if not spread:
            continue
        near = web_from(web, side, spreads)
        for loop in loops_from(near, side, True):
            span = circuit_along(near, loop).kept_part()
            if span is not None and Spread([span]) & spread:
                yield loop, span


def can_roll(floor, spreads):
    """Whether the ball can cross sides without end within spreads that no step leads out of."""
    for _ in rolling_rounds(floor, spreads):
        return True
    return False
