"""Rounds: sides behind one another along which a ball can come back to the side where it began."""

from gustfloor.circuits import Circuit, room_of
from gustfloor.cuts import unit
from gustfloor.errors import InvalidRound, UnknownSide
from gustfloor.links import link_between, web_of


def spent_on(link, side, narrow):
    """What a round that goes on along a link to a side cannot use again: the side, or a whole tile."""
    return link.across() if narrow else side


def comes_back(web, side, first, spent, narrow):
    """Whether links lead from a side to the first one without what is spent, be there steps along them or not."""
    seen = {side: True}
    ahead = [side]
    while ahead:
        here = ahead.pop()
        for other, link in web[here].items():
            if other in seen or spent_on(link, other, narrow) in spent:
                continue
            if other == first:
                return True
            seen[other] = True
            ahead.append(other)
    return False


def loops_from(web, first, narrow):
    """The rounds of a web of links that begin with a side, ascending; the narrow ones cross no tile twice."""
    ways = [((first,), (), unit())]
    while ways:
        loop, spent, span = ways.pop()
        ahead = []
        for side, link in web[loop[-1]].items():
            used = spent_on(link, side, narrow)
            there = None if used in spent else link.carried(span)
            if there is None:
                continue
            if side == first:
                yield loop
            elif comes_back(web, side, first, spent + (used,), narrow):
                ahead.append((loop + (side,), spent + (used,), there))
        ways.extend(ahead[::-1])


def rounds(floor):
    """All rounds of a floor, ascending, each one for each of its sides at which it can begin."""
    web = web_of(floor)
    for side in floor.sides():
        yield from loops_from(web, side, False)


def links_round(floor, sides):
    """The list of the links from side to side and back to the first one, or None for any other value."""
    if not isinstance(sides, tuple) or not sides:
        return None
    for at, side in enumerate(sides):
        if side not in floor or side in sides[:at]:
            return None
    links = [link_between(floor, side, other) for side, other in zip(sides, sides[1:] + sides[:1])]
    return None if None in links else links


class Round:
    """A round of a floor, by the tuple of its sides."""

    def __init__(self, floor, sides):
        links = links_round(floor, sides)
        room = None if links is None else room_of(links)
        if room is None:
            raise InvalidRound(sides)
        self._floor = floor
        self._loop = sides
        self._room = room
        self._circuit = Circuit(links, room)
        self._kept = self._circuit.kept_part()

    @property
    def loop(self):
        return self._loop

    @property
    def room(self):
        return self._room

    @property
    def kept(self):
        return self._kept

    def image(self, span):
        """What can be reached from a span by going round once, as a Span, or None."""
        return self._circuit.image(span)

    def sweep(self, span):
        """What can be reached from a span by going round any number of times, as a Spread."""
        return self._circuit.sweep(span)

    def leads_into_itself(self, span):
        """Whether a step round leads from each ratio of a span into it again, as the document tells."""
        return self._circuit.keeps(span)

    def begun_at(self, side):
        """The round that begins at another side and goes on in the same order."""
        if side not in self._floor or side not in self._loop:
            raise UnknownSide(side)
        at = self._loop.index(side)
        return Round(self._floor, self._loop[at:] + self._loop[:at])

    def __len__(self):
        return len(self._loop)

    def __repr__(self):
        return f"Round({len(self._loop)} sides)"
