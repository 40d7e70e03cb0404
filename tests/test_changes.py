import unittest
from random import Random

from kit import (
    EAST, LISTS, NEAR_SIDES, STRANGE, held_floor, pair_floor, random_floor, refused,
)

from gustfloor import changes
from gustfloor.changes import joined, opened, parted, turned, walled, with_winds
from gustfloor.errors import (
    DuplicateName, InvalidChord, InvalidName, InvalidWall, InvalidWinds, NotJoined, SplitSide, TooMany, UnknownTile,
)
from gustfloor.floors import Floor
from gustfloor.tiles import Tile

LOW, MIDDLE, RIGHT = ((0, 0), (4, 0)), ((4, 0), (4, 4)), ((8, 0), (8, 4))
SQUARE = [(0, 0), (4, 0), (4, 4), (0, 4)]
BAD_NAMES = ["", "abcdefghi", "A", "a1", "a b", None, 1, True, ("a",), ["a"], Tile.box("a", (0, 0), (4, 4), EAST)]
NO_TILES = ["c", "aa", ""] + STRANGE + LISTS


def row_of_boxes(many, winds=EAST):
    return [Tile.box("abcdefghijklmnopqrst"[at], (4 * at, 0), (4 * at + 4, 4), winds) for at in range(many)]


class ChangeTests(unittest.TestCase):
    def setUp(self):
        self.floor = pair_floor()
        self.barred = pair_floor(walls=[MIDDLE])

    def tearDown(self):
        self.assertEqual(self.floor, pair_floor())
        self.assertEqual(self.barred, pair_floor(walls=[MIDDLE]))
        self.assertEqual((self.floor.walls(), self.barred.walls()), ([], [MIDDLE]))


class InterfaceTests(unittest.TestCase):
    def test_interface(self):
        for call in (joined, opened, parted, turned, walled, with_winds):
            self.assertEqual(call.__module__, "gustfloor.changes")
            self.assertIs(getattr(changes, call.__name__), call)

    def test_parameters_by_name(self):
        floor = pair_floor()
        self.assertEqual(turned(floor=floor), turned(floor))
        self.assertEqual(
            with_winds(second=(1, 3), first=(1, 1), name="a", floor=floor), with_winds(floor, "a", (1, 1), (1, 3)),
        )
        skew = with_winds(floor, "a", (1, 2), (1, 3))
        self.assertEqual(
            parted(other="d", one="c", end=(4, 4), begin=(0, 0), name="a", floor=skew),
            parted(skew, "a", (0, 0), (4, 4), "c", "d"),
        )
        self.assertEqual(joined(name="c", other="b", one="a", floor=floor), joined(floor, "a", "b", "c"))
        self.assertEqual(walled(side=MIDDLE, floor=floor), walled(floor, MIDDLE))
        self.assertEqual(opened(side=MIDDLE, floor=walled(floor, MIDDLE)), floor)


class WallTests(ChangeTests):
    def test_walled(self):
        self.assertEqual(walled(self.floor, MIDDLE), self.barred)
        self.assertEqual(walled(self.floor, MIDDLE).kind(MIDDLE), "wall")

    def test_walls_ascend(self):
        floor = Floor(row_of_boxes(4))
        sides = [((4 * at, 0), (4 * at, 4)) for at in (2, 1, 3)]
        for at, side in enumerate(sides):
            floor = walled(floor, side)
            self.assertEqual(floor.walls(), sorted(sides[:at + 1]))
        floor = opened(floor, sides[0])
        self.assertEqual(floor.walls(), sorted(sides[1:]))

    def test_walled_and_opened(self):
        self.assertEqual(opened(walled(self.floor, MIDDLE), MIDDLE), self.floor)
        self.assertEqual(walled(opened(self.barred, MIDDLE), MIDDLE), self.barred)
        chance = Random(3)
        for _ in range(10):
            floor = random_floor(chance, 3, 2)
            for side in floor.sides():
                if len(floor.tiles_at(side)) == 2:
                    self.assertEqual(opened(walled(floor, side), side), floor)

    def test_refused(self):
        wrong = STRANGE + LISTS + NEAR_SIDES + [((0, 0), (8, 0)), MIDDLE[::-1], list(MIDDLE), ((4, False), (4, 4))]
        for value in wrong + [LOW, RIGHT]:
            refused(self, InvalidWall, [value], walled, self.floor, value)
            refused(self, InvalidWall, [value], walled, self.barred, value)
            refused(self, InvalidWall, [value], opened, self.floor, value)
            refused(self, InvalidWall, [value], opened, self.barred, value)
        refused(self, InvalidWall, [MIDDLE], walled, self.barred, MIDDLE)
        refused(self, InvalidWall, [MIDDLE], opened, self.floor, MIDDLE)


class WindTests(ChangeTests):
    def test_turned(self):
        kinds = {"spring": "rest", "rest": "spring", "pass": "pass", "wall": "wall"}
        for floor in (self.floor, self.barred, held_floor(), random_floor(Random(1), 3, 3)):
            other = turned(floor)
            self.assertEqual(other.names(), floor.names())
            self.assertEqual(other.walls(), floor.walls())
            self.assertEqual(other.tiles(), [tile.turned() for tile in floor.tiles()])
            for side in floor.sides():
                self.assertEqual(other.kind(side), kinds[floor.kind(side)])
            self.assertEqual(turned(other), floor)

    def test_with_winds(self):
        other = with_winds(self.barred, "b", (-1, 1), (-2, 1))
        expected = [self.floor.tile("a"), Tile.box("b", (4, 0), (8, 4), ((-1, 1), (-2, 1)))]
        self.assertEqual(other, Floor(expected, [MIDDLE]))
        self.assertEqual(with_winds(self.floor, "a", (1, 1), (1, 2)), self.floor)

    def test_refused(self):
        for name in NO_TILES:
            refused(self, UnknownTile, [name], with_winds, self.floor, name, None, None)
        for value in STRANGE + LISTS:
            refused(self, InvalidWinds, [], with_winds, self.floor, "a", value, (1, 0))
            refused(self, InvalidWinds, [], with_winds, self.floor, "a", (1, 0), value)
        refused(self, InvalidWinds, [], with_winds, self.floor, "a", (1, 2), (1, 1))
        refused(self, SplitSide, [LOW], with_winds, self.floor, "a", (1, 0), (1, 2))
        refused(self, SplitSide, [((4, 0), (8, 0))], with_winds, self.floor, "b", (1, 0), (1, 2))
        refused(self, SplitSide, [MIDDLE], with_winds, self.floor, "a", (1, 1), (-1, 2))


class PartTests(ChangeTests):
    def setUp(self):
        ChangeTests.setUp(self)
        # The winds leave room for chords to both sides.
        self.steep = ((1, 2), (1, 3))
        self.three = Floor([tile.with_winds(*self.steep) for tile in row_of_boxes(3)], [RIGHT])

    def test_the_two_new_tiles(self):
        floor = parted(self.three, "b", (4, 0), (8, 4), "x", "y")
        x = Tile("x", [(4, 0), (8, 0), (8, 4)], self.steep)
        y = Tile("y", [(8, 4), (4, 4), (4, 0)], self.steep)
        tiles = self.three.tiles()
        self.assertEqual(floor, Floor([tiles[0], x, y, tiles[2]], [RIGHT]))
        self.assertEqual(floor.names(), ["a", "x", "y", "c"])

    def test_going_round(self):
        floor = parted(self.three, "a", (4, 4), (0, 0), "x", "y")
        self.assertEqual(floor.tile("x").corners, ((4, 4), (0, 4), (0, 0)))
        self.assertEqual(floor.tile("y").corners, ((0, 0), (4, 0), (4, 4)))
        eight = [(2, 0), (4, 0), (6, 2), (6, 4), (4, 6), (2, 6), (0, 4), (0, 2)]
        floor = Floor([Tile("p", eight, ((8, 1), (9, 2)))])
        other = parted(floor, "p", (4, 6), (4, 0), "q", "p")
        self.assertEqual(other.names(), ["q", "p"])
        self.assertEqual(other.tile("q").corners, ((4, 6), (2, 6), (0, 4), (0, 2), (2, 0), (4, 0)))
        self.assertEqual(other.tile("p").corners, ((4, 0), (6, 2), (6, 4), (4, 6)))
        self.assertEqual(other.tile("q").winds, ((8, 1), (9, 2)))
        self.assertEqual(other.kind(((4, 0), (4, 6))), "pass")
        other = parted(floor, "p", (0, 2), (4, 6), "q", "r")
        self.assertEqual(other.tile("q").corners, ((0, 2), (2, 0), (4, 0), (6, 2), (6, 4), (4, 6)))
        self.assertEqual(other.tile("r").corners, ((4, 6), (2, 6), (0, 4), (0, 2)))

    def test_names_that_are_free(self):
        for one, other in (("b", "x"), ("x", "b")):
            floor = parted(self.three, "b", (4, 0), (8, 4), one, other)
            self.assertEqual(floor.names(), ["a", one, other, "c"])

    def test_unknown_tile(self):
        for name in NO_TILES:
            if name != "c":
                refused(self, UnknownTile, [name], parted, self.three, name, None, None, None, None)

    def test_names_refused(self):
        for name in BAD_NAMES:
            refused(self, InvalidName, [name], parted, self.three, "b", None, None, name, None)
            refused(self, InvalidName, [name], parted, self.three, "b", None, None, "x", name)
        for name in ("a", "c"):
            refused(self, DuplicateName, [name], parted, self.three, "b", None, None, name, None)
            refused(self, DuplicateName, [name], parted, self.three, "b", None, None, "x", name)
            refused(self, DuplicateName, [name], parted, self.three, "b", None, None, "b", name)
        for name in ("x", "b"):
            refused(self, DuplicateName, [name], parted, self.three, "b", None, None, name, name)

    def chord(self, begin, end, floor=None, name="b"):
        refused(self, InvalidChord, [begin, end], parted, floor or self.three, name, begin, end, "x", "y")

    def test_values_that_are_no_corners(self):
        for value in STRANGE + LISTS + [[4, 0], (0, 0), (6, 0), (5, 1), ((4, 0), (8, 0)), "4,0"]:
            self.chord(value, (8, 4))
            self.chord((4, 0), value)
            self.chord(value, value)
        floor = Floor([Tile.box("b", (0, 0), (1, 1), self.steep)])
        self.chord((False, 0), (1, 1), floor)
        self.chord((0, 0), (True, 1), floor)
        self.chord((0, 0), (1, True), floor)
        self.assertEqual(len(parted(floor, "b", (0, 0), (1, 1), "x", "y")), 2)

    def test_corners_on_one_side(self):
        corners = [(4, 0), (8, 0), (8, 4), (4, 4)]
        for at, corner in enumerate(corners):
            self.chord(corner, corner)
            self.chord(corner, corners[at - 1])
            self.chord(corners[at - 1], corner)

    def test_a_row_of_corners_that_goes_straight_on(self):
        straight = [(0, 0), (2, 0), (3, 0), (4, 0), (4, 4), (0, 4)]
        floor = Floor([Tile("b", straight, self.steep)])
        for begin, end in [((0, 0), (3, 0)), ((0, 0), (4, 0)), ((2, 0), (4, 0))]:
            self.chord(begin, end, floor)
            self.chord(end, begin, floor)
        other = parted(floor, "b", (0, 4), (3, 0), "x", "y")
        self.assertEqual(other.tile("x").corners, ((0, 4), (0, 0), (2, 0), (3, 0)))
        self.assertEqual(other.tile("y").corners, ((3, 0), (4, 0), (4, 4), (0, 4)))

    def test_chords_between_the_winds(self):
        rows = [
            # Along one wind, along the other one, between both.
            ((1, 1), (1, 2)), ((2, 1), (1, 1)), ((2, 1), (1, 2)),
        ]
        for winds in rows:
            floor = Floor([Tile.box("b", (0, 0), (4, 4), winds)])
            self.chord((0, 0), (4, 4), floor)
            self.chord((4, 4), (0, 0), floor)
            self.assertEqual(len(parted(floor, "b", (4, 0), (0, 4), "x", "y")), 2)

    def test_too_many(self):
        full = Floor([tile.with_winds(*self.steep) for tile in row_of_boxes(16)])
        refused(self, TooMany, [16], parted, full, "b", (4, 0), (8, 4), "x", "y")
        refused(self, TooMany, [16], parted, full, "b", (4, 0), (8, 4), "x", "b")
        fifteen = Floor(full.tiles()[:15])
        self.assertEqual(len(parted(fifteen, "b", (4, 0), (8, 4), "x", "y")), 16)

    def test_order_of_the_errors(self):
        full = Floor(row_of_boxes(16))
        refused(self, UnknownTile, ["z"], parted, full, "z", None, None, "", "")
        refused(self, InvalidName, [""], parted, full, "b", None, None, "", "")
        refused(self, DuplicateName, ["a"], parted, full, "b", None, None, "a", "")
        refused(self, InvalidName, ["B"], parted, full, "b", None, None, "x", "B")
        refused(self, DuplicateName, ["x"], parted, full, "b", None, None, "x", "x")
        refused(self, InvalidChord, [None, 1], parted, full, "b", None, 1, "x", "y")
        refused(self, InvalidChord, [(4, 0), (8, 4)], parted, full, "b", (4, 0), (8, 4), "x", "y")


class JoinTests(ChangeTests):
    def test_the_joined_tile(self):
        floor = joined(self.floor, "a", "b", "c")
        corners = [(4, 4), (0, 4), (0, 0), (4, 0), (8, 0), (8, 4)]
        self.assertEqual(floor, Floor([Tile("c", corners, EAST)]))
        floor = joined(self.floor, "b", "a", "c")
        corners = [(4, 0), (8, 0), (8, 4), (4, 4), (0, 4), (0, 0)]
        self.assertEqual(floor, Floor([Tile("c", corners, EAST)]))

    def test_wherever_the_corners_begin(self):
        for at in range(4):
            for to in range(4):
                a, b = self.floor.tile("a"), self.floor.tile("b")
                a = Tile("a", a.corners[at:] + a.corners[:at], EAST)
                b = Tile("b", b.corners[to:] + b.corners[:to], EAST)
                self.assertEqual(joined(Floor([a, b]), "a", "b", "c"), joined(self.floor, "a", "b", "c"))

    def test_the_place_of_the_first_tile(self):
        tiles = row_of_boxes(4)
        walls = [((12, 0), (12, 4))]
        floor = Floor(tiles, walls)
        self.assertEqual(joined(floor, "b", "c", "x").names(), ["a", "x", "d"])
        self.assertEqual(joined(floor, "c", "b", "x").names(), ["a", "x", "d"])
        self.assertEqual(joined(floor, "b", "a", "x").names(), ["x", "c", "d"])
        mixed = Floor([tiles[2], tiles[0], tiles[3], tiles[1]], walls)
        self.assertEqual(joined(mixed, "b", "c", "x").names(), ["a", "d", "x"])
        self.assertEqual(joined(mixed, "c", "b", "x").names(), ["x", "a", "d"])
        self.assertEqual(joined(mixed, "c", "b", "x").walls(), walls)

    def test_names_that_are_free(self):
        for name in ("a", "b", "c"):
            self.assertEqual(joined(self.floor, "a", "b", name).names(), [name])

    def test_joined_and_parted(self):
        steep = ((1, 2), (1, 3))
        floor = Floor([tile.with_winds(*steep) for tile in row_of_boxes(3)], [RIGHT])
        apart = parted(floor, "b", (4, 0), (8, 4), "x", "y")
        again = joined(apart, "x", "y", "b")
        self.assertEqual(again.tile("b").corners, ((4, 0), (8, 0), (8, 4), (4, 4)))
        self.assertEqual(again, floor)

    def test_unknown_tiles(self):
        for name in NO_TILES:
            refused(self, UnknownTile, [name], joined, self.floor, name, None, "")
            refused(self, UnknownTile, [name], joined, self.floor, "a", name, "")

    def test_names_refused(self):
        floor = Floor(row_of_boxes(3))
        for name in BAD_NAMES:
            refused(self, InvalidName, [name], joined, floor, "a", "a", name)
            refused(self, InvalidName, [name], joined, floor, "a", "b", name)
        refused(self, DuplicateName, ["c"], joined, floor, "a", "b", "c")
        refused(self, DuplicateName, ["a"], joined, floor, "c", "b", "a")
        refused(self, DuplicateName, ["b"], joined, floor, "a", "a", "b")
        refused(self, DuplicateName, ["b"], joined, floor, "a", "c", "b")

    def apart(self, floor, one, other):
        refused(self, NotJoined, [one, other], joined, floor, one, other, one)
        refused(self, NotJoined, [other, one], joined, floor, other, one, "new")

    def test_the_same_tile_twice(self):
        self.apart(self.floor, "a", "a")
        self.apart(self.floor, "b", "b")

    def test_other_winds(self):
        for first, second in [((1, 1), (1, 3)), ((2, 2), (1, 2)), ((1, 1), (2, 4)), ((1, 3), (1, 4))]:
            self.apart(with_winds(self.floor, "b", first, second), "a", "b")

    def test_no_common_side(self):
        self.apart(Floor(row_of_boxes(3)), "a", "c")
        self.apart(Floor([Tile.box("a", (0, 0), (4, 4), EAST), Tile.box("b", (4, 4), (8, 8), EAST)]), "a", "b")

    def test_two_common_sides(self):
        a = Tile("a", [(0, 0), (4, 0), (4, 2), (4, 4), (0, 4)], EAST)
        b = Tile("b", [(4, 0), (8, 0), (8, 4), (4, 4), (4, 2)], EAST)
        self.apart(Floor([a, b]), "a", "b")

    def test_a_wall_between_them(self):
        self.apart(self.barred, "a", "b")
        self.apart(Floor(row_of_boxes(3), [MIDDLE, RIGHT]), "b", "c")

    def test_a_result_that_is_no_tile(self):
        # A dent.
        roof = Tile("b", [(4, 0), (9, 2), (4, 4)], ((1, 1), (1, 2)))
        self.assertEqual(len(joined(Floor([Tile.box("a", (0, 0), (4, 4), EAST), roof]), "a", "b", "c").tile("c")), 5)
        steep = ((1, 2), (1, 3))
        wide = Tile("b", [(4, 0), (8, -4), (8, 8), (4, 4)], steep)
        self.apart(Floor([Tile.box("a", (0, 0), (4, 4), steep), wide]), "a", "b")
        # Nine corners, and eight.
        six = [(0, 0), (2, 0), (4, 0), (4, 4), (2, 4), (0, 4)]
        others = [(4, 0), (6, 0), (8, 0), (8, 4), (4, 4)]
        self.apart(Floor([Tile("a", six, EAST), Tile("b", others, EAST)]), "a", "b")
        others = [(4, 0), (8, 0), (8, 4), (4, 4)]
        floor = joined(Floor([Tile("a", six, EAST), Tile("b", others, EAST)]), "a", "b", "c")
        self.assertEqual(floor.tile("c").corners, (
            (4, 4), (2, 4), (0, 4), (0, 0), (2, 0), (4, 0), (8, 0), (8, 4),
        ))

    def test_order_of_the_errors(self):
        floor = Floor(row_of_boxes(3))
        refused(self, UnknownTile, ["y"], joined, floor, "y", "z", "")
        refused(self, UnknownTile, ["z"], joined, floor, "a", "z", "")
        refused(self, InvalidName, [""], joined, floor, "a", "c", "")
        refused(self, DuplicateName, ["b"], joined, floor, "a", "c", "b")
        refused(self, NotJoined, ["a", "c"], joined, floor, "a", "c", "d")


if __name__ == "__main__":
    unittest.main()
