"""What can be reached from a place, and from where it can be reached."""

from gustfloor.changes import turned
from gustfloor.circuits import circuit_along
from gustfloor.errors import InvalidPlace
from gustfloor.links import web_of
from gustfloor.rounds import loops_from
from gustfloor.spans import Span, Spread


def check_places(floor, places):
    """Raises InvalidPlace with the first value that is no place of a floor."""
    for place in places:
        if not floor.is_place(place):
            raise InvalidPlace(place)


class Flood:
    """What was found to be reached: for each side a spread, and the part of it from which to go on."""

    def __init__(self, floor):
        self._web = web_of(floor)
        self._circuits = {}
        self._found = {}
        self._fresh = {}

    def circuits(self, side):
        """The list of the circuits that begin with a side, as far as they are needed.

        A way that crosses itself can be shortened. One that does not crosses no tile twice between two visits of a
        side: what lies between both crossings would be inside of the loop and outside of it. So narrow rounds do.
        """
        if side not in self._circuits:
            self._circuits[side] = [circuit_along(self._web, loop) for loop in loops_from(self._web, side, True)]
        return self._circuits[side]

    def take(self, side, spread):
        """Adds what can be reached on a side."""
        news = spread - self._found.get(side, Spread())
        if news:
            self._found[side] = self._found.get(side, Spread()) | news
            self._fresh[side] = self._fresh.get(side, Spread()) | news

    def go_on(self, side):
        """Adds what can be reached from what is new on a side, by sweeps and by steps."""
        spans = self._fresh.pop(side).spans()
        for span in spans:
            for circuit in self.circuits(side):
                self.take(side, circuit.sweep(span))
            for other, link in self._web[side].items():
                there = link.carried(span)
                if there is not None:
                    self.take(other, Spread([there]))

    def run(self):
        """Goes on from each side in turn until nothing is new."""
        while self._fresh:
            for side in list(self._fresh):
                self.go_on(side)

    def rows(self):
        """The ascending list of the rows (side, spread)."""
        return [(side, self._found[side]) for side in sorted(list(self._found))]


def reached(floor, place):
    """The ascending list of the rows (side, spread) of what can be reached from a place."""
    check_places(floor, [place])
    flood = Flood(floor)
    flood.take(place[0], Spread([Span.only(place[1])]))
    flood.run()
    return flood.rows()


def sources(floor, place):
    """The ascending list of the rows (side, spread) of the places from which a place can be reached."""
    check_places(floor, [place])
    return reached(turned(floor), place)


def by_side(rows):
    """The dict of the spreads of rows by their sides."""
    spreads = {}
    for side, spread in rows:
        spreads[side] = spread
    return spreads


def have(spreads, place):
    """Whether spreads, by their sides, have a place."""
    return place[0] in spreads and place[1] in spreads[place[0]]


def can_reach(floor, start, *goals):
    """For each goal whether it can be reached from the start."""
    check_places(floor, [start, *goals])
    spreads = by_side(reached(floor, start))
    return [have(spreads, goal) for goal in goals]
