import unittest
from random import Random

from kit import (
    ANY, EAST, HALF, LOW, MIDDLE, NO_PLACES, RIGHT, UPPER, held_floor, pair_floor, random_floor, random_place,
    random_winds, refused,
)

from gustfloor import hall as module
from gustfloor.changes import joined, parted, with_winds
from gustfloor.errors import (
    DuplicateName, GustError, InvalidChord, InvalidDeed, InvalidLimit, InvalidName, InvalidPlace, InvalidWall,
    InvalidWinds, MarkedSide, Missing, NothingLeft, NotJoined, SplitSide, TooMany, UnknownMark, UnknownTile,
)
from gustfloor.floors import Floor
from gustfloor.hall import Hall
from gustfloor.ratios import Ratio
from gustfloor.reaching import can_reach
from gustfloor.tiles import Tile

START, NEAR, FAR = (LOW, HALF), (UPPER, Ratio(1, 4)), (UPPER, Ratio(3, 4))
BAD_NAMES = [value for value in ANY if value not in ("a", "b")] + ["A", "a1", "abcdefghi", "a b", "", "\u00e9"]
NO_LIMITS = [0, -1, 41, 10 ** 60, True, False, None, "3", (3,), [3], Ratio(3), pair_floor()]
PART = ("part", "a", (0, 4), (4, 0), "c", "d")
JOIN = ("join", "c", "d", "a")
DIAGONAL = ((0, 4), (4, 0))
STEEP = ("wind", "a", (1, 2), (1, 3))


def marked(*names, floor=None, limit=20):
    """A hall with marks on the lowest side of the two boxes, each at another ratio."""
    hall = Hall(floor or pair_floor(), limit=limit)
    for at, name in enumerate(names):
        hall.apply(("mark", name, (LOW, Ratio(at + 1, 50))))
    return hall


def state(hall):
    """All that a hall tells."""
    return (
        hall.floor, hall.marks(), hall.limit, hall.history(), hall.kept_pairs(), hall.computed, hall.busy, len(hall),
    )


def asking_hall():
    """A hall with three marks, all nine answers of which are kept."""
    hall = Hall(pair_floor())
    hall.apply(("mark", "m", START), ("mark", "n", NEAR), ("mark", "o", FAR))
    for one in "mno":
        for other in "mno":
            hall.asked(one, other)
    return hall


PAIRS = [(one, other) for one in "mno" for other in "mno"]


class ShapeTests(unittest.TestCase):
    def test_interface(self):
        self.assertEqual(Hall.__module__, "gustfloor.hall")
        self.assertIs(module.Hall, Hall)
        listed = [
            "MOST", "__contains__", "__eq__", "__init__", "__len__", "__repr__", "apply", "asked", "busy", "computed",
            "floor", "history", "kept_pairs", "limit", "marks", "place", "redo", "set_limit", "twin", "undo",
        ]
        for name in listed:
            self.assertIn(name, vars(Hall))
        self.assertEqual(Hall.MOST, 40)

    def test_a_new_hall(self):
        hall = Hall(floor=pair_floor())
        self.assertEqual(state(hall), (pair_floor(), [], 20, (0, 0), [], 0, False, 0))
        self.assertEqual(repr(hall), "Hall(0 marks)")
        self.assertEqual(Hall(limit=3, floor=held_floor()).limit, 3)
        self.assertIs(hall.busy, False)

    def test_marks(self):
        hall = Hall(pair_floor())
        hall.apply(("mark", "n", NEAR))
        hall.apply(("mark", "m", START), ("mark", "zz", START))
        self.assertEqual(hall.marks(), [("m", START), ("n", NEAR), ("zz", START)])
        self.assertEqual((len(hall), repr(hall)), (3, "Hall(3 marks)"))
        self.assertEqual([hall.place("m"), hall.place(name="n")], [START, NEAR])
        self.assertEqual(["m" in hall, "o" in hall], [True, False])
        hall.marks().clear()
        self.assertEqual(len(hall.marks()), 3)

    def test_marks_of_any_names(self):
        hall = asking_hall()
        for value in BAD_NAMES + ["a", "b", ["m"], ("m",), "mm"]:
            self.assertIs(value in hall, False)
            refused(self, UnknownMark, [value], hall.place, value)
            refused(self, UnknownMark, [value], hall.asked, value, "m")
            refused(self, UnknownMark, [value], hall.asked, "m", value)
            refused(self, UnknownMark, [value], hall.asked, value, None)
            refused(self, UnknownMark, [value], hall.apply, ("clear", value))
        self.assertEqual(hall.computed, 9)

    def test_equal(self):
        one, other = asking_hall(), Hall(pair_floor(), limit=7)
        self.assertFalse(one == other)
        self.assertTrue(one != other)
        other.apply(("mark", "o", FAR))
        other.apply(("mark", "n", NEAR), ("mark", "m", START))
        # The limit, the steps and the kept answers do not count.
        self.assertTrue(one == other)
        self.assertFalse(one != other)
        for deed in (("mark", "m", NEAR), ("clear", "m"), ("mark", "p", START), ("wall", MIDDLE), STEEP):
            other.apply(deed)
            self.assertFalse(one == other)
            other.undo()
            self.assertTrue(one == other)
        for value in ANY + [one.floor, one.marks()]:
            self.assertFalse(one == value)


class DeedTests(unittest.TestCase):
    """Each deed, and its errors in their order."""

    def refuse(self, error, told, deed, hall=None):
        hall = asking_hall() if hall is None else hall
        before = state(hall)
        refused(self, error, told, hall.apply, deed)
        self.assertEqual(state(hall), before)
        # Nor does what is right in front of it stay.
        refused(self, error, told, hall.apply, ("wind", "b", (1, 2), (1, 3)), ("wind", "b", *EAST), deed, PART)
        self.assertEqual(state(hall), before)

    def test_wind(self):
        hall = asking_hall()
        hall.apply(STEEP)
        self.assertEqual(hall.floor, with_winds(pair_floor(), "a", (1, 2), (1, 3)))
        for name in BAD_NAMES + ["c", "m"]:
            self.refuse(UnknownTile, [name], ("wind", name, None, None))
        no_winds = [
            ((1, 2), (1, 1)), ((1, 1), (2, 2)), ((0, 0), (1, 1)), (None, (1, 1)), ((1, 1), [1, 2]), (True, 0), ([], ()),
        ]
        for first, second in no_winds:
            self.refuse(InvalidWinds, [], ("wind", "a", first, second))
        self.refuse(SplitSide, [LOW], ("wind", "a", (1, 0), (1, 1)))
        self.refuse(SplitSide, [MIDDLE], ("wind", "a", (1, 1), (-1, 2)))

    def test_part(self):
        hall = asking_hall()
        hall.apply(PART)
        self.assertEqual(hall.floor, parted(pair_floor(), "a", (0, 4), (4, 0), "c", "d"))
        self.assertEqual(hall.floor.names(), ["c", "d", "b"])
        self.assertEqual(len(hall), 3)
        for name in BAD_NAMES + ["c"]:
            self.refuse(UnknownTile, [name], ("part", name, None, None, "", ""))
        for name in BAD_NAMES:
            self.refuse(InvalidName, [name], ("part", "a", None, None, name, 3))
            self.refuse(InvalidName, [name], ("part", "a", None, None, "c", name))
            self.refuse(DuplicateName, ["b"], ("part", "a", None, None, "b", name))
        self.refuse(DuplicateName, ["b"], ("part", "a", None, None, "c", "b"))
        self.refuse(DuplicateName, ["c"], ("part", "a", None, None, "c", "c"))
        # Along a side, from a corner to itself, to none of the tile, to no point, along a wind.
        for one, other in (((0, 0), (4, 0)), ((4, 4), (4, 4)), ((0, 0), (8, 4)), (None, []), ((0, 0), (4, 4))):
            self.refuse(InvalidChord, [one, other], ("part", "a", one, other, "c", "d"))
        # The old name may be used again.
        hall = asking_hall()
        hall.apply(("part", "a", (4, 0), (0, 4), "d", "a"))
        self.assertEqual(hall.floor, parted(pair_floor(), "a", (4, 0), (0, 4), "d", "a"))
        self.assertEqual(hall.floor.names(), ["d", "a", "b"])

    def test_too_many_tiles(self):
        tiles = [Tile.box("abcdefghijklmnop"[at], (4 * at, 0), (4 * at + 4, 4), EAST) for at in range(16)]
        hall = Hall(Floor(tiles))
        self.refuse(InvalidChord, [(0, 0), (4, 0)], ("part", "a", (0, 0), (4, 0), "x", "z"), hall)
        self.refuse(TooMany, [16], ("part", "a", (4, 0), (0, 4), "x", "z"), hall)
        self.refuse(NotJoined, ["a", "c"], ("join", "a", "c", "x"), hall)

    def test_join(self):
        floor = parted(pair_floor(), "a", (0, 4), (4, 0), "c", "d")
        hall = Hall(floor)
        hall.apply(("mark", "m", START), ("join", "d", "c", "a"))
        self.assertEqual(hall.floor, joined(floor, "d", "c", "a"))
        self.assertEqual(hall.floor.names(), ["a", "b"])
        for name in BAD_NAMES + ["a"]:
            self.refuse(UnknownTile, [name], ("join", name, "a", None), Hall(floor))
            self.refuse(UnknownTile, [name], ("join", "c", name, None), Hall(floor))
        for name in BAD_NAMES:
            self.refuse(InvalidName, [name], ("join", "c", "b", name), Hall(floor))
        self.refuse(DuplicateName, ["b"], ("join", "c", "d", "b"), Hall(floor))
        self.refuse(DuplicateName, ["d"], ("join", "c", "b", "d"), Hall(floor))
        self.refuse(NotJoined, ["c", "b"], ("join", "c", "b", "c"), Hall(floor))
        self.refuse(DuplicateName, ["d"], ("join", "c", "c", "d"), Hall(floor))
        for name in ("c", "e"):
            self.refuse(NotJoined, ["c", "c"], ("join", "c", "c", name), Hall(floor))
        # Marks on the common side; then it is a wall, too.
        hall = Hall(floor)
        hall.apply(("mark", "m", (DIAGONAL, HALF)), ("mark", "n", START))
        self.refuse(MarkedSide, [DIAGONAL], ("join", "c", "d", "a"), hall)
        self.refuse(NotJoined, ["c", "b"], ("join", "c", "b", "a"), hall)
        hall.apply(("wall", DIAGONAL))
        self.refuse(NotJoined, ["c", "d"], ("join", "c", "d", "a"), hall)
        hall.apply(("open", DIAGONAL), ("clear", "m"), ("join", "c", "d", "d"))
        self.assertEqual(hall.floor.names(), ["d", "b"])

    def test_walls(self):
        hall = asking_hall()
        hall.apply(("wall", MIDDLE))
        self.assertEqual(hall.floor, pair_floor(walls=[MIDDLE]))
        self.refuse(InvalidWall, [MIDDLE], ("wall", MIDDLE), hall)
        hall.apply(("open", MIDDLE))
        self.assertEqual(hall.floor, pair_floor())
        for value in ANY + [LOW, RIGHT, list(MIDDLE), MIDDLE[::-1]]:
            self.refuse(InvalidWall, [value], ("wall", value))
            self.refuse(InvalidWall, [value], ("open", value))
        self.refuse(InvalidWall, [MIDDLE], ("open", MIDDLE))

    def test_a_wall_may_be_marked(self):
        hall = Hall(pair_floor())
        hall.apply(("mark", "m", (MIDDLE, HALF)), ("wall", MIDDLE), ("mark", "n", (MIDDLE, Ratio(1, 3))))
        self.assertEqual(len(hall), 2)
        self.assertEqual([hall.asked("m", "m"), hall.asked("m", "n")], [True, False])

    def test_mark(self):
        hall = asking_hall()
        hall.apply(("mark", "m", FAR))
        self.assertEqual((hall.place("m"), len(hall)), (FAR, 3))
        for name in BAD_NAMES:
            self.refuse(InvalidName, [name], ("mark", name, None))
        for value in NO_PLACES:
            self.refuse(InvalidPlace, [value], ("mark", "m", value))
            self.refuse(InvalidPlace, [value], ("mark", "z", value))

    def test_the_limit(self):
        hall = marked("a", "b", "c", limit=3)
        self.refuse(InvalidName, [""], ("mark", "", START), hall)
        self.refuse(InvalidPlace, [None], ("mark", "d", None), hall)
        refused(self, TooMany, [3], hall.apply, ("mark", "d", START))
        refused(self, TooMany, [3], hall.apply, ("mark", "d", START), ("clear", "a"))
        self.assertEqual((len(hall), hall.history()), (3, (3, 0)))
        hall.apply(("mark", "a", FAR))
        hall.apply(("clear", "b"), ("mark", "d", START))
        self.assertEqual([name for name, _ in hall.marks()], ["a", "c", "d"])
        hall.limit = 4
        hall.apply(("mark", "b", START))
        refused(self, TooMany, [4], hall.apply, ("mark", "e", START))

    def test_clear(self):
        hall = asking_hall()
        hall.apply(("clear", "n"))
        self.assertEqual(hall.marks(), [("m", START), ("o", FAR)])
        self.refuse(UnknownMark, ["n"], ("clear", "n"), hall)
        self.refuse(UnknownMark, ["a"], ("clear", "a"), hall)

    def test_deeds_behind_one_another(self):
        """Each deed meets what the ones before it left."""
        hall = Hall(pair_floor())
        steep = ("wind", "c", (1, 2), (1, 3)), ("wind", "d", (1, 2), (1, 3))
        hall.apply(PART, ("mark", "m", (DIAGONAL, HALF)), *steep, ("clear", "m"), JOIN, ("wall", MIDDLE))
        self.assertEqual((hall.history(), len(hall)), ((1, 0), 0))
        self.assertEqual([tile.winds for tile in hall.floor.tiles()], [((1, 2), (1, 3)), EAST])
        self.assertEqual((hall.floor.names(), hall.floor.walls()), (["a", "b"], [MIDDLE]))
        hall.undo()
        self.assertEqual(hall.floor, pair_floor())
        refused(self, NotJoined, ["c", "d"], hall.apply, PART, steep[0], JOIN)
        refused(self, UnknownTile, ["a"], hall.apply, PART, STEEP, JOIN)
        refused(self, MarkedSide, [DIAGONAL], hall.apply, PART, ("mark", "m", (DIAGONAL, HALF)), JOIN)
        refused(self, InvalidPlace, [(DIAGONAL, HALF)], hall.apply, PART, JOIN, ("mark", "m", (DIAGONAL, HALF)))
        self.assertEqual((hall.floor, hall.history(), len(hall)), (pair_floor(), (0, 1), 0))


class InvalidDeedTests(unittest.TestCase):
    WRONG = [value for value in ANY if value != ()] + [
        (), ("wind",), ("wind", "a", (1, 1)), ("wind", "a", (1, 1), (1, 2), 3), ("part", "a", (0, 0), (4, 4), "c"),
        PART + (1,), ("join", "c", "d"), JOIN + ("e",), ("wall",), ("wall", MIDDLE, 1), ("open",),
        ("open", MIDDLE, MIDDLE), ("mark", "m"), ("mark", "m", START, 1), ("mark",), ("clear",), ("clear", "m", "n"),
        ["clear", "m"], list(PART), ["mark", "z", START], ("Mark", "z", START), ("mark ", "z", START), ("", "z"),
        ("undo",), ("redo",), ("limit", 3), (("clear",), "m"), (["clear"], "m"), (None, "m"), (True, "m"), (1, "m"),
        ("z", "mark", START), "mark", "clear m",
    ]

    def test_the_first_index(self):
        right = ("mark", "z", START)
        for value in self.WRONG:
            hall = asking_hall()
            before = state(hall)
            refused(self, InvalidDeed, [0], hall.apply, value)
            refused(self, InvalidDeed, [0], hall.apply, value, right, value)
            refused(self, InvalidDeed, [2], hall.apply, right, ("clear", "z"), value, None)
            # Ahead of all other errors.
            refused(self, InvalidDeed, [3], hall.apply, ("clear", "nobody"), ("wind", [], 1, 2), right, value)
            self.assertEqual(state(hall), before)


class StepTests(unittest.TestCase):
    def test_undo_and_redo(self):
        hall = Hall(pair_floor())
        states = [(hall.floor, hall.marks())]
        calls = [
            [("mark", "m", START)], [("mark", "n", FAR)],
            [("wall", MIDDLE)], [("clear", "m"), STEEP], [("open", MIDDLE), ("part", "b", (4, 4), (8, 0), "x", "z")],
            [("mark", "n", (((4, 4), (8, 0)), HALF))], [("clear", "n"), ("join", "z", "x", "b")],
        ]
        for at, deeds in enumerate(calls):
            hall.apply(*deeds)
            states.append((hall.floor, hall.marks()))
            self.assertEqual(hall.history(), (at + 1, 0))
        many = len(calls)
        for _ in range(2):
            for at in range(many - 1, -1, -1):
                hall.undo()
                self.assertEqual((hall.floor, hall.marks()), states[at])
                self.assertEqual(hall.history(), (at, many - at))
            before = state(hall)
            refused(self, NothingLeft, [], hall.undo)
            self.assertEqual(state(hall), before)
            for at in range(1, many + 1):
                hall.redo()
                self.assertEqual((hall.floor, hall.marks()), states[at])
                self.assertEqual(hall.history(), (at, many - at))
            before = state(hall)
            refused(self, NothingLeft, [], hall.redo)
            self.assertEqual(state(hall), before)

    def test_another_step(self):
        hall = marked("a", "b", "c")
        hall.undo()
        hall.undo()
        self.assertEqual(hall.history(), (1, 2))
        # A call that fails, or that has no deeds, is no step.
        refused(self, UnknownMark, ["z"], hall.apply, ("clear", "z"))
        hall.apply()
        self.assertEqual(hall.history(), (1, 2))
        hall.redo()
        self.assertEqual(hall.history(), (2, 1))
        hall.apply(("mark", "z", START))
        self.assertEqual(hall.history(), (3, 0))
        refused(self, NothingLeft, [], hall.redo)
        self.assertEqual([name for name, _ in hall.marks()], ["a", "b", "z"])

    def test_a_call_without_deeds(self):
        hall = asking_hall()
        before = state(hall)
        hall.apply()
        self.assertEqual(state(hall), before)

    def test_a_call_that_leaves_all_as_it_was(self):
        hall = asking_hall()
        hall.undo()
        hall.redo()
        hall.apply(("mark", "m", START))
        self.assertEqual(hall.history(), (2, 0))
        hall.apply(("wall", MIDDLE), ("open", MIDDLE))
        hall.apply(("mark", "z", FAR), ("clear", "z"))
        self.assertEqual(hall.history(), (4, 0))
        other = hall.twin()
        for _ in range(3):
            hall.undo()
            self.assertEqual(hall, other)

    def test_the_limit_is_no_part_of_the_steps(self):
        hall = marked("a", "b", "c", limit=5)
        hall.apply(("clear", "a"), ("clear", "b"))
        hall.limit = 1
        hall.undo()
        self.assertEqual((len(hall), hall.limit), (3, 1))
        refused(self, TooMany, [1], hall.apply, ("mark", "d", START))
        hall.redo()
        hall.undo()
        self.assertEqual((len(hall), hall.limit, hall.history()), (3, 1, (3, 1)))
        hall.apply(("mark", "a", FAR))
        hall.limit = 5
        hall.apply(("mark", "d", FAR), ("mark", "e", FAR))
        hall.apply(("clear", "a"), ("clear", "b"), ("clear", "c"), ("clear", "d"))
        hall.limit = 2
        hall.undo()
        self.assertEqual((len(hall), hall.limit), (5, 2))
        hall.undo()
        hall.redo()
        self.assertEqual((len(hall), hall.limit), (5, 2))


class LimitTests(unittest.TestCase):
    def test_any_values(self):
        for value in NO_LIMITS:
            refused(self, InvalidLimit, [value], Hall, pair_floor(), limit=value)
            hall = marked("a", "b")
            before = state(hall)
            refused(self, InvalidLimit, [value], hall.set_limit, value)
            refused(self, InvalidLimit, [value], setattr, hall, "limit", value)
            self.assertEqual(state(hall), before)

    def test_limits(self):
        for limit in (1, 2, 20, 39, 40):
            self.assertEqual(Hall(pair_floor(), limit=limit).limit, limit)
            hall = Hall(pair_floor())
            hall.set_limit(value=limit)
            self.assertEqual(hall.limit, limit)
            self.assertIsNone(hall.set_limit(7))
            hall.limit = limit
            self.assertEqual(hall.limit, limit)

    def test_at_least_the_number_of_the_marks(self):
        hall = marked("a", "b", "c")
        for value in (1, 2):
            refused(self, InvalidLimit, [value], hall.set_limit, value)
            refused(self, InvalidLimit, [value], setattr, hall, "limit", value)
        hall.set_limit(3)
        hall.limit = 4
        self.assertEqual((hall.limit, hall.history()), (4, (3, 0)))
        hall.apply(("clear", "a"), ("clear", "b"))
        hall.limit = 1
        self.assertEqual(hall.limit, 1)

    def test_only_the_limit_can_be_assigned(self):
        hall = Hall(pair_floor())
        for name in ("floor", "busy", "computed"):
            with self.assertRaises(AttributeError):
                setattr(hall, name, 1)

    def test_forty_marks(self):
        names = [f"{one}{other}" for one in "abcd" for other in "abcdefghij"]
        hall = marked(*names, limit=40)
        self.assertEqual(len(hall), 40)
        refused(self, TooMany, [40], hall.apply, ("mark", "z", START))


class BusyTests(unittest.TestCase):
    def test_behind_each_call(self):
        hall = asking_hall()
        calls = [
            (hall.apply, STEEP), (hall.apply,), (hall.undo,), (hall.undo,), (hall.undo,), (hall.redo,), (hall.redo,),
            (hall.redo,), (hall.apply, None), (hall.apply, ("clear", "z")), (hall.apply, ("mark", "m", 3)),
            (hall.apply, ("wind", "a", (1, 0), (1, 1))), (hall.set_limit, 0), (hall.asked, "m", "n"),
        ]
        for call, *given in calls:
            try:
                call(*given)
            except (GustError, Missing, NothingLeft):
                pass
            self.assertIs(hall.busy, False)

    def test_while_deeds_are_applied(self):
        hall = Hall(pair_floor())
        seen = []
        before = module.scene_behind

        def watched(*given):
            seen.append(hall.busy)
            return before(*given)

        def broken(*given):
            seen.append(hall.busy)
            raise RuntimeError("broken")

        try:
            module.scene_behind = watched
            hall.apply(("mark", "m", START))
            module.scene_behind = broken
            self.assertRaises(RuntimeError, hall.apply, ("mark", "n", START))
        finally:
            module.scene_behind = before
        self.assertEqual(seen, [True, True])
        self.assertIs(hall.busy, False)
        self.assertEqual((len(hall), hall.history()), (1, (1, 0)))


class AnswerTests(unittest.TestCase):
    def test_asked(self):
        hall = Hall(pair_floor())
        hall.apply(("mark", "m", START), ("mark", "n", NEAR), ("mark", "o", FAR))
        rows = [("m", "n", True), ("m", "o", False), ("n", "m", False), ("m", "m", True), ("n", "o", False)]
        for many, (one, other, answer) in enumerate(rows):
            self.assertEqual(hall.computed, many)
            self.assertIs(hall.asked(one, other), answer)
            self.assertIs(hall.asked(other=other, one=one), answer)
            self.assertEqual(hall.computed, many + 1)
        self.assertEqual(hall.kept_pairs(), sorted((one, other) for one, other, _ in rows))
        hall.kept_pairs().clear()
        self.assertEqual(len(hall.kept_pairs()), 5)
        self.assertEqual(hall.history(), (1, 0))

    def check_kept(self, pairs, *deeds):
        """Which pairs are kept behind a call on a hall in which all nine are."""
        hall = asking_hall()
        hall.apply(*deeds)
        self.assertEqual(hall.kept_pairs(), pairs, deeds)
        self.assertEqual(hall.computed, 9)
        return hall

    def test_behind_gentle_calls(self):
        self.check_kept(PAIRS)
        self.check_kept(PAIRS, ("mark", "p", START))
        self.check_kept(PAIRS, ("mark", "m", START))
        self.check_kept(PAIRS, PART)
        self.check_kept(PAIRS, PART, JOIN)
        self.check_kept(PAIRS, PART, ("join", "d", "c", "e"), ("mark", "p", FAR))
        without = [("m", "m"), ("m", "o"), ("o", "m"), ("o", "o")]
        self.check_kept(without, ("clear", "n"))
        self.check_kept(without, ("mark", "n", FAR))
        self.check_kept(without, PART, ("mark", "n", (DIAGONAL, HALF)))
        self.check_kept(without, PART, ("clear", "n"))
        self.check_kept(without, ("clear", "n"), PART)
        self.check_kept([], ("clear", "n"), ("clear", "m"), ("clear", "o"))
        self.check_kept([("n", "n")], ("mark", "m", NEAR), ("mark", "o", NEAR))

    def test_what_was_in_between_does_not_count(self):
        self.check_kept(PAIRS, ("clear", "n"), ("mark", "n", NEAR))
        self.check_kept(PAIRS, ("mark", "n", FAR), ("mark", "m", FAR), ("mark", "m", START), ("mark", "n", NEAR))
        self.check_kept(PAIRS, ("wall", MIDDLE), ("open", MIDDLE))
        self.check_kept(PAIRS, STEEP, ("wind", "a", *EAST))
        self.check_kept(PAIRS, ("wall", MIDDLE), ("clear", "o"), ("mark", "o", FAR), ("open", MIDDLE))
        # In calls of their own it does.
        hall = self.check_kept([], ("wall", MIDDLE))
        hall.apply(("open", MIDDLE))
        self.assertEqual(hall.kept_pairs(), [])
        hall = self.check_kept([("m", "m"), ("m", "o"), ("o", "m"), ("o", "o")], ("clear", "n"))
        hall.apply(("mark", "n", NEAR))
        self.assertEqual(hall.kept_pairs(), [("m", "m"), ("m", "o"), ("o", "m"), ("o", "o")])

    def test_behind_other_calls(self):
        self.check_kept([], ("wall", MIDDLE))
        self.check_kept([], STEEP)
        self.check_kept([], PART, STEEP[:1] + ("d",) + STEEP[2:])
        self.check_kept([], ("mark", "p", START), ("wall", MIDDLE))
        # Equal floors, but not only gentle deeds.
        self.check_kept(PAIRS, ("wind", "a", *EAST))
        self.check_kept(PAIRS, ("wind", "a", *EAST), ("mark", "p", START))
        self.check_kept([("m", "m")], ("wind", "b", *EAST), ("mark", "n", FAR), ("clear", "o"))
        # The floor is parted and another one, and the deeds are not only gentle.
        self.check_kept([], ("wind", "a", *EAST), PART)
        self.check_kept([], PART, ("wall", MIDDLE), ("open", MIDDLE))

    def test_behind_undo_and_redo(self):
        hall = asking_hall()
        hall.apply(PART)
        hall.apply(("wall", MIDDLE))
        self.assertEqual(hall.kept_pairs(), [])
        hall.asked("m", "n")
        hall.undo()
        self.assertEqual(hall.kept_pairs(), [])
        hall.asked("m", "n")
        hall.undo()
        # The step that is undone parts a tile only.
        self.assertEqual(hall.kept_pairs(), [("m", "n")])
        hall.redo()
        self.assertEqual(hall.kept_pairs(), [("m", "n")])
        hall.redo()
        self.assertEqual(hall.kept_pairs(), [])

    def test_behind_undo_and_redo_of_marks(self):
        hall = asking_hall()
        hall.apply(("mark", "n", FAR), ("mark", "p", FAR))
        hall.asked("n", "m")
        hall.asked("p", "m")
        without = [("m", "m"), ("m", "o"), ("o", "m"), ("o", "o")]
        self.assertEqual(hall.kept_pairs(), sorted(without + [("n", "m"), ("p", "m")]))
        hall.undo()
        self.assertEqual(hall.kept_pairs(), without)
        hall.asked("n", "m")
        hall.redo()
        self.assertEqual(hall.kept_pairs(), without)
        hall.undo()
        hall.undo()
        self.assertEqual((hall.kept_pairs(), len(hall)), ([], 0))

    def test_undone_steps_that_leave_the_floor_equal(self):
        hall = asking_hall()
        hall.apply(("wall", MIDDLE), ("open", MIDDLE))
        hall.undo()
        self.assertEqual(hall.kept_pairs(), PAIRS)
        hall.redo()
        self.assertEqual(hall.kept_pairs(), PAIRS)
        hall.apply(("wind", "a", *EAST), PART)
        hall.asked("m", "n")
        hall.undo()
        self.assertEqual(hall.kept_pairs(), [])

    def test_failed_calls(self):
        hall = asking_hall()
        for deeds in ([("clear", "m"), ("clear", "m")], [("wall", MIDDLE), None], [STEEP, ("wind", "z", 1, 2)]):
            self.assertRaises((GustError, Missing), hall.apply, *deeds)
            self.assertEqual(hall.kept_pairs(), PAIRS)
        refused(self, NothingLeft, [], hall.redo)
        self.assertEqual(hall.kept_pairs(), PAIRS)

    def test_kept_answers_are_right(self):
        """On floors by chance, whatever is done, each answer is what the floor tells."""
        kept = 0
        for seed in range(12):
            chance = Random(seed)
            hall = Hall(random_floor(chance, 2, 2, most=4))
            for _ in range(60):
                deed = self.deed_by_chance(chance, hall)
                try:
                    chance.choice([lambda: hall.apply(deed), lambda: hall.apply(deed), hall.undo, hall.redo])()
                except (GustError, Missing, NothingLeft):
                    pass
                names = [name for name, _ in hall.marks()]
                self.assertTrue(all(one in names and other in names for one, other in hall.kept_pairs()))
                for one, other in hall.kept_pairs():
                    before = hall.computed
                    answer = hall.asked(one, other)
                    self.assertEqual(hall.computed, before)
                    self.assertEqual([answer], can_reach(hall.floor, hall.place(one), hall.place(other)))
                    kept += 1
                for _ in range(3 if names else 0):
                    hall.asked(chance.choice(names), chance.choice(names))
        self.assertGreater(kept, 500)

    def deed_by_chance(self, chance, hall):
        floor = hall.floor
        tile = chance.choice(floor.tiles())
        side = chance.choice(floor.sides())
        corners = chance.sample(tile.corners, 2)
        letters = "pqrstuvw"
        return chance.choice([
            ("mark", chance.choice("mno"), random_place(chance, floor)), ("clear", chance.choice("mno")),
            ("mark", chance.choice("mno"), random_place(chance, floor)),
            ("part", tile.label, *corners, chance.choice(letters), chance.choice(letters)),
            ("join", tile.label, chance.choice(floor.names()), chance.choice(letters)), ("wall", side), ("open", side),
            ("wind", tile.label, *random_winds(chance, tile.corners, 4)),
        ])


class TwinTests(unittest.TestCase):
    def test_the_same_state(self):
        hall = asking_hall()
        hall.apply(("wall", MIDDLE))
        hall.undo()
        hall.asked("m", "n")
        hall.limit = 9
        twin = hall.twin()
        self.assertIs(twin.__class__, Hall)
        self.assertIsNot(twin, hall)
        self.assertEqual(twin, hall)
        self.assertEqual(state(twin), state(hall))
        self.assertIs(twin.asked("m", "n"), True)
        self.assertEqual(twin.computed, hall.computed)
        twin.redo()
        self.assertEqual(twin.floor, pair_floor(walls=[MIDDLE]))
        twin.undo()
        twin.undo()
        self.assertEqual(len(twin), 0)

    def test_independent(self):
        for one, other in ((0, 1), (1, 0)):
            hall = asking_hall()
            hall.apply(("wall", MIDDLE))
            hall.undo()
            halls = [hall, hall.twin()]
            before = state(halls[other])
            changing = halls[one]
            changing.asked("m", "n")
            changing.limit = 7
            changing.apply(("mark", "p", FAR), ("clear", "m"))
            changing.asked("p", "n")
            self.assertEqual(state(halls[other]), before)
            changing.undo()
            changing.undo()
            self.assertEqual(state(halls[other]), before)
            changing.redo()
            changing.redo()
            self.assertEqual(state(halls[other]), before)
            halls[other].redo()
            self.assertEqual(halls[other].floor, pair_floor(walls=[MIDDLE]))

    def test_steps_that_were_undone(self):
        for one, other in ((0, 1), (1, 0)):
            hall = marked("a", "b", "c")
            hall.undo()
            hall.undo()
            halls = [hall, hall.twin()]
            halls[one].redo()
            self.assertEqual([halls[one].history(), halls[other].history()], [(2, 1), (1, 2)])
            halls[other].redo()
            halls[other].redo()
            self.assertEqual([halls[one].history(), halls[other].history()], [(2, 1), (3, 0)])

    def test_more_marks_than_the_limit(self):
        hall = marked("a", "b", "c")
        hall.apply(("clear", "a"), ("clear", "b"))
        hall.limit = 1
        hall.undo()
        self.assertEqual(state(hall.twin()), state(hall))
        self.assertEqual((len(hall.twin()), hall.twin().limit), (3, 1))


if __name__ == "__main__":
    unittest.main()
