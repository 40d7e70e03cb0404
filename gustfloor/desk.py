"""Desks: answers to lines about a hall."""

from gustfloor.errors import GustError, InvalidText, Missing, NothingLeft, UnknownSide
from gustfloor.reaching import by_side, reached
from gustfloor.rolling import can_roll
from gustfloor.spans import Spread
from gustfloor.texts import read_place, read_side
from gustfloor.ways import fewest


def reach(hall, one, other):
    """Whether one mark can be reached from another one, as `yes` or `no`."""
    return "yes" if hall.asked(one, other) else "no"


def far(hall, one, other):
    """How many pieces lead from one mark to another one, or `never`."""
    start, goal = hall.place(one), hall.place(other)
    many = fewest(hall.floor, start, goal)
    return "never" if many is None else str(many)


def ever(hall, name):
    """Whether the ball `rolls` on without end from a mark, or always `rests`."""
    spreads = by_side(reached(hall.floor, hall.place(name)))
    return "rolls" if can_roll(hall.floor, spreads) else "rests"


def spread_on(hall, name, side):
    """The text of what can be reached from a mark on a side."""
    place = hall.place(name)
    if side not in hall.floor:
        raise UnknownSide(side)
    spreads = by_side(reached(hall.floor, place))
    return str(spreads.get(side, Spread()))


def done(hall, deed):
    """Applies a deed."""
    hall.apply(deed)
    return "done"


def reply(hall, words):
    """The answer to the words of a line; raises InvalidText if a side or a place is not written as one."""
    match words:
        case ["tiles"]:
            return " ".join(hall.floor.names())
        case ["kind", side]:
            return hall.floor.kind(read_side(side))
        case ["reach", one, other]:
            return reach(hall, one, other)
        case ["far", one, other]:
            return far(hall, one, other)
        case ["ever", name]:
            return ever(hall, name)
        case ["spread", name, side]:
            return spread_on(hall, name, read_side(side))
        case ["mark", name, place]:
            return done(hall, ("mark", name, read_place(place)))
        case ["clear", name]:
            return done(hall, ("clear", name))
        case ["wall" | "open", side]:
            return done(hall, (words[0], read_side(side)))
        case ["undo"]:
            hall.undo()
            return "done"
        case ["redo"]:
            hall.redo()
            return "done"
    return "unknown"


def answer(hall, line):
    """The answer to a line."""
    try:
        return reply(hall, line.split(" "))
    except InvalidText:
        return "unknown"
    except (GustError, Missing, NothingLeft) as error:
        return f"error {error.code}"


class Desk:
    """Answers lines about a hall, which it may change, and logs them."""

    def __init__(self, hall):
        self._hall = hall
        self._log = []

    def say(self, line):
        """The answer to a line."""
        said = answer(self._hall, line)
        self._log.append((line, said))
        return said

    def hall(self):
        """The hall itself."""
        return self._hall

    def log(self):
        """The list of the pairs (line, answer)."""
        return list(self._log)

    def __call__(self, line):
        return self.say(line)

    def __len__(self):
        return len(self._log)

    def __repr__(self):
        return f"Desk({len(self._log)} lines)"
