"""Papers: answers that can be checked without a search."""

from gustfloor.errors import InvalidRound
from gustfloor.links import links_from
from gustfloor.reaching import have
from gustfloor.rolling import can_roll
from gustfloor.rounds import Round
from gustfloor.spans import Span, Spread
from gustfloor.ways import is_way


def fresh(value):
    """A value with new lists in the place of each list that it consists of."""
    if isinstance(value, list):
        return [fresh(item) for item in value]
    if isinstance(value, tuple):
        return tuple([fresh(item) for item in value])
    return value


def leads_from(floor, places, start):
    """Whether any values are a place and a way that begins with it."""
    return floor.is_place(start) and is_way(floor, places) and places[0] == start


def spreads_of(floor, rows):
    """The dict of spreads by their sides, or None if any values are no rows of different sides of the floor."""
    spreads = {}
    for row in rows:
        if not isinstance(row, tuple) or len(row) != 2:
            return None
        side, spread = row
        if side not in floor or side in spreads or not isinstance(spread, Spread):
            return None
        spreads[side] = spread
    return spreads


def are_closed(floor, spreads):
    """Whether no step leads out of spreads."""
    for side, spread in spreads.items():
        for other, link in links_from(floor, side).items():
            if not link.carried_spread(spread).within(spreads.get(other, Spread())):
                return False
    return True


def closed_from(floor, rows, start):
    """The dict of the spreads of rows that are closed and have a start, or None for any other values."""
    spreads = spreads_of(floor, rows)
    if spreads is None or not floor.is_place(start) or not have(spreads, start) or not are_closed(floor, spreads):
        return None
    return spreads


def round_of(floor, loop):
    """The round along a loop, or None for any value that is none."""
    try:
        return Round(floor, loop)
    except InvalidRound:
        return None


class Paper:
    """An answer about what can be done from a start; the base class itself shows nothing."""

    KIND = "open"

    def __init__(self, floor, start):
        self._floor = floor
        self._start = fresh(start)

    @property
    def floor(self):
        return self._floor

    @property
    def start(self):
        return fresh(self._start)

    def holds(self):
        """Whether the paper shows what it says."""
        return False

    def told(self):
        """The kind and, below this class, how much is shown."""
        return self.KIND

    def __bool__(self):
        return False

    def __repr__(self):
        return f"Paper({self.told()})"


class Way(Paper):
    """Shows that a goal can be reached, by a way to it."""

    KIND = "way"

    def __init__(self, floor, start, goal, places):
        super().__init__(floor, start)
        self._goal = fresh(goal)
        self._places = fresh(list(places))

    @property
    def goal(self):
        return fresh(self._goal)

    def places(self):
        """The list of the places of the way."""
        return fresh(self._places)

    def holds(self):
        """Whether the places are a way from the start to the goal."""
        if not self.floor.is_place(self._goal) or not leads_from(self.floor, self._places, self._start):
            return False
        return self._places[-1] == self._goal

    def told(self):
        """The kind and the number of the pieces."""
        return f"{self.KIND} {len(self._places) - 1}"

    def __bool__(self):
        return True


class Barred(Paper):
    """Shows that a goal cannot be reached, by spreads that no step leads out of."""

    KIND = "barred"

    def __init__(self, floor, start, goal, rows):
        super().__init__(floor, start)
        self._goal = fresh(goal)
        self._rows = fresh(list(rows))

    @property
    def goal(self):
        return fresh(self._goal)

    def rows(self):
        """The list of the rows (side, spread)."""
        return fresh(self._rows)

    def holds(self):
        """Whether the rows are closed, have the start and do not have the goal."""
        spreads = closed_from(self.floor, self._rows, self._start)
        return spreads is not None and self.floor.is_place(self._goal) and not have(spreads, self._goal)

    def told(self):
        """The kind and the number of the rows."""
        return f"{self.KIND} {len(self._rows)}"

    def __bool__(self):
        return False


class Rolling(Paper):
    """Shows that the ball can cross sides without end, by a way to a round that can be gone for ever."""

    KIND = "rolls"

    def __init__(self, floor, start, places, loop, span):
        super().__init__(floor, start)
        self._places = fresh(list(places))
        self._loop = fresh(loop)
        self._span = fresh(span)

    @property
    def loop(self):
        return fresh(self._loop)

    @property
    def span(self):
        return fresh(self._span)

    def places(self):
        """The list of the places of the way to the round."""
        return fresh(self._places)

    def holds(self):
        """Whether the way leads into a span of the first side of the round that leads into itself."""
        if not isinstance(self._span, Span) or not leads_from(self.floor, self._places, self._start):
            return False
        circle = round_of(self.floor, self._loop)
        if circle is None or not circle.leads_into_itself(self._span):
            return False
        side, ratio = self._places[-1]
        return side == self._loop[0] and ratio in self._span

    def told(self):
        """The kind and the number of the sides of the round."""
        return f"{self.KIND} {len(self._loop) if isinstance(self._loop, tuple) else 0}"

    def __bool__(self):
        return True


class Resting(Paper):
    """Shows that the ball comes to rest whatever is done, by closed spreads without a round to go for ever."""

    KIND = "rests"

    def __init__(self, floor, start, rows):
        super().__init__(floor, start)
        self._rows = fresh(list(rows))

    def rows(self):
        """The list of the rows (side, spread)."""
        return fresh(self._rows)

    def holds(self):
        """Whether the rows are closed, have the start, and the kept span of no round meets them."""
        spreads = closed_from(self.floor, self._rows, self._start)
        return spreads is not None and not can_roll(self.floor, spreads)

    def told(self):
        """The kind and the number of the rows."""
        return f"{self.KIND} {len(self._rows)}"

    def __bool__(self):
        return False
