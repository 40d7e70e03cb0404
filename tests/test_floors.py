import unittest
from fractions import Fraction
from random import Random

from kit import EAST, LISTS, NEAR_SIDES, STRANGE, held_floor, pair_floor, random_floor, refused

from gustfloor import floors
from gustfloor.errors import (
    DuplicateName, InvalidPlace, InvalidTiles, InvalidWall, LooseCorner, Overlap, TooMany, UnknownSide, UnknownTile,
)
from gustfloor.floors import Floor
from gustfloor.planes import cross
from gustfloor.ratios import Ratio
from gustfloor.tiles import Tile

NORTH = ((-1, 2), (-2, 1))
A = Tile.box("a", (0, 0), (4, 4), EAST)
B = Tile.box("b", (4, 0), (8, 4), EAST)
MIDDLE = ((4, 0), (4, 4))
SIDES = [
    ((0, 0), (0, 4)), ((0, 0), (4, 0)), ((0, 4), (4, 4)), ((4, 0), (4, 4)), ((4, 0), (8, 0)), ((4, 4), (8, 4)),
    ((8, 0), (8, 4)),
]
HALF = Ratio(1, 2)


def box(name, low, high, winds=EAST):
    return Tile.box(name, low, high, winds)


def row_of_boxes(many):
    """Boxes beside one another, named a, b, c, .."""
    return [box("abcdefghijklmnopqrstuvwxyz"[at], (4 * at, 0), (4 * at + 4, 4)) for at in range(many)]


def shape(name, *corners):
    """A tile with winds that suit it."""
    for first in [(x, y) for x in range(-9, 10) for y in range(-9, 10)]:
        for second in [(first[0] - first[1], first[1] + first[0]), (9 * first[0] - first[1], 9 * first[1] + first[0])]:
            try:
                return Tile(name, list(corners), (first, second))
            except ValueError:
                pass
    raise AssertionError(corners)


class ToldTests(unittest.TestCase):
    def setUp(self):
        self.floor = Floor([B, A], [MIDDLE])

    def test_interface(self):
        self.assertEqual(Floor.__module__, "gustfloor.floors")
        self.assertIs(floors.Floor, Floor)
        words = [
            "tiles", "names", "walls", "sides", "tile", "kind", "tiles_at", "into", "is_place", "point",
            "__contains__", "__len__", "__eq__", "__repr__",
        ]
        for word in words:
            self.assertIn(word, Floor.__dict__)
        self.assertEqual((Floor.MOST, self.floor.MOST), (16, 16))

    def test_parameters_by_name(self):
        floor = Floor(walls=[MIDDLE], tiles=[B, A])
        self.assertEqual(floor, self.floor)
        self.assertEqual(floor.tile(name="a"), A)
        self.assertEqual(floor.kind(side=MIDDLE), "wall")
        self.assertEqual(floor.tiles_at(side=MIDDLE), ["b", "a"])
        self.assertEqual(floor.into(side=SIDES[0]), ["a"])
        self.assertIs(floor.is_place(value=(MIDDLE, HALF)), True)
        self.assertEqual(floor.point(place=(MIDDLE, HALF)), (Ratio(4), Ratio(2)))

    def test_lists(self):
        self.assertEqual(self.floor.tiles(), [B, A])
        self.assertEqual(self.floor.names(), ["b", "a"])
        self.assertEqual(self.floor.walls(), [MIDDLE])
        self.assertEqual(self.floor.sides(), SIDES)
        self.assertEqual(Floor([A, B]).walls(), [])
        self.assertEqual(Floor([A, B]).names(), ["a", "b"])
        self.assertEqual(Floor((A, B), (MIDDLE,)), Floor([A, B], [MIDDLE]))
        for made in (self.floor.tiles(), self.floor.names(), self.floor.walls(), self.floor.sides()):
            self.assertIs(made.__class__, list)

    def test_walls_ascend(self):
        tiles = row_of_boxes(4)
        walls = [((12, 0), (12, 4)), ((4, 0), (4, 4)), ((8, 0), (8, 4))]
        self.assertEqual(Floor(tiles, walls).walls(), sorted(walls))

    def test_tile(self):
        self.assertEqual(self.floor.tile("a"), A)
        self.assertEqual(self.floor.tile("b"), B)
        for value in STRANGE + LISTS + ["c", "aa", "ab", A, ("a",), ["a"]]:
            refused(self, UnknownTile, [value], self.floor.tile, value)

    def test_kinds(self):
        rows = [
            (EAST, EAST, "pass"), (NORTH, NORTH, "pass"), (NORTH, EAST, "spring"), (EAST, NORTH, "rest"),
        ]
        for one, other, kind in rows:
            tiles = [box("a", (0, 0), (4, 4), one), box("b", (4, 0), (8, 4), other)]
            self.assertEqual(Floor(tiles).kind(MIDDLE), kind)
            self.assertEqual(Floor(tiles[::-1]).kind(MIDDLE), kind)
            self.assertEqual(Floor(tiles, [MIDDLE]).kind(MIDDLE), "wall")

    def test_kinds_of_sides_of_one_tile(self):
        kinds = [self.floor.kind(side) for side in SIDES]
        self.assertEqual(kinds, ["spring", "spring", "rest", "wall", "spring", "rest", "rest"])

    def test_tiles_at(self):
        names = [["a"], ["a"], ["a"], ["b", "a"], ["b"], ["b"], ["b"]]
        self.assertEqual([self.floor.tiles_at(side) for side in SIDES], names)
        self.assertEqual(Floor([A, B]).tiles_at(MIDDLE), ["a", "b"])

    def test_into(self):
        self.assertEqual([self.floor.into(side) for side in SIDES], [["a"], ["a"], [], [], ["b"], [], []])
        self.assertEqual([Floor([A, B]).into(side) for side in SIDES], [["a"], ["a"], [], ["b"], ["b"], [], []])
        tiles = [box("b", (4, 0), (8, 4), EAST), box("a", (0, 0), (4, 4), NORTH)]
        self.assertEqual(Floor(tiles).into(MIDDLE), ["b", "a"])
        self.assertEqual(Floor(tiles[::-1]).into(MIDDLE), ["a", "b"])
        self.assertEqual(Floor(tiles, [MIDDLE]).into(MIDDLE), [])
        rest = Floor([box("a", (0, 0), (4, 4), EAST), box("b", (4, 0), (8, 4), NORTH)])
        self.assertEqual(rest.into(MIDDLE), [])

    def test_unknown_sides(self):
        for value in STRANGE + LISTS + NEAR_SIDES + [((0, 0), (4, 4)), ((0, 0), (8, 0)), (MIDDLE, HALF)]:
            for call in (self.floor.kind, self.floor.tiles_at, self.floor.into):
                refused(self, UnknownSide, [value], call, value)

    def test_sides_in_the_floor(self):
        for side in SIDES:
            self.assertIs(side in self.floor, True)
        for value in STRANGE + LISTS + NEAR_SIDES + [((0, 0), (4, 4)), ((0, 0), (8, 0)), "a", A, MIDDLE[0]]:
            self.assertIs(value in self.floor, False, repr(value))

    def test_length(self):
        for many in range(1, 17):
            self.assertEqual(len(Floor(row_of_boxes(many))), many)

    def test_equal(self):
        self.assertIs(self.floor == Floor([B, A], [MIDDLE]), True)
        self.assertIs(self.floor != Floor([B, A], [MIDDLE]), False)
        three = row_of_boxes(3)
        walls = [((4, 0), (4, 4)), ((8, 0), (8, 4))]
        self.assertEqual(Floor(three, walls), Floor(three, walls[::-1]))
        others = [Floor([A, B], [MIDDLE]), Floor([B, A]), Floor([B]), Floor([B, A.with_name("c")], [MIDDLE])]
        others += [Floor([B, A.with_winds((1, 1), (1, 3))], [MIDDLE])]
        for other in others + STRANGE + LISTS + [[B, A], (B, A)]:
            self.assertIs(self.floor == other, False, repr(other))
            self.assertIs(other == self.floor, False, repr(other))

    def test_repr(self):
        self.assertEqual(repr(self.floor), "Floor(2 tiles, 1 walls)")
        self.assertEqual(repr(Floor([A])), "Floor(1 tiles, 0 walls)")
        self.assertEqual(repr(Floor(row_of_boxes(16))), "Floor(16 tiles, 0 walls)")

    def test_lists_are_copied(self):
        tiles, walls = [B, A], [MIDDLE]
        floor = Floor(tiles, walls)
        self.assertEqual((tiles, walls), ([B, A], [MIDDLE]))
        tiles.clear()
        walls.append(None)
        self.assertEqual(floor, self.floor)
        self.assertEqual((floor.tiles(), floor.walls()), ([B, A], [MIDDLE]))

    def test_returned_lists_are_new(self):
        calls = [self.floor.tiles, self.floor.names, self.floor.walls, self.floor.sides]
        calls += [lambda: self.floor.tiles_at(MIDDLE), lambda: Floor([A, B]).into(MIDDLE)]
        calls += [lambda: self.floor.tiles_at(SIDES[0]), lambda: self.floor.into(SIDES[0])]
        for call in calls:
            before = list(call())
            call().append(None)
            call().clear()
            self.assertEqual(call(), before)
        self.assertEqual(self.floor, Floor([B, A], [MIDDLE]))
        self.assertEqual(len(self.floor), 2)


class RefusedTests(unittest.TestCase):
    def test_values_that_are_no_list(self):
        for value in [None, True, 0, 5, "a", A, Floor([A]), {0: A}, Ratio(1)]:
            refused(self, InvalidTiles, [0], Floor, value)

    def test_no_tiles(self):
        refused(self, InvalidTiles, [0], Floor, [])
        refused(self, InvalidTiles, [0], Floor, ())

    def test_values_that_are_no_tiles(self):
        for value in [None, True, 3, "a", (A,), [A], Floor([A]), A.corners]:
            refused(self, InvalidTiles, [0], Floor, [value])
            refused(self, InvalidTiles, [0], Floor, [value, A, None])
            refused(self, InvalidTiles, [1], Floor, [A, value, B, None])
            refused(self, InvalidTiles, [2], Floor, (A, B, value))

    def test_too_many(self):
        self.assertEqual(len(Floor(row_of_boxes(16))), 16)
        refused(self, TooMany, [16], Floor, row_of_boxes(17))
        refused(self, TooMany, [16], Floor, tuple(row_of_boxes(20)))

    def test_duplicate_names(self):
        tiles = row_of_boxes(4)
        refused(self, DuplicateName, ["a"], Floor, [tiles[0], tiles[1].with_name("a")])
        again = [tiles[0], tiles[1], tiles[2].with_name("b"), tiles[3].with_name("a")]
        refused(self, DuplicateName, ["b"], Floor, again)

    def overlap(self, one, other, *tiles):
        refused(self, Overlap, [one, other], Floor, list(tiles))

    def test_overlap(self):
        rows = [
            # The same, one within the other, with and without a common side, a cross, a corner within, an overhang.
            ((0, 0), (4, 4)), ((1, 1), (3, 3)), ((0, 0), (3, 3)), ((-1, 1), (5, 3)), ((3, 3), (6, 6)),
            ((-9, -9), (9, 9)), ((-4, 3), (1, 9)), ((2, 0), (6, 4)), ((0, -4), (4, 1)), ((3, -5), (9, 9)),
        ]
        for low, high in rows:
            self.overlap("a", "c", A, box("c", low, high))
            self.overlap("c", "a", box("c", low, high), A)
        # The least boxes and triangles that there are.
        small = box("a", (0, 0), (1, 1))
        self.overlap("a", "c", small, small.with_name("c"))
        half = Tile("c", [(0, 0), (1, 0), (0, 1)], ((1, 1), (1, 2)))
        self.overlap("a", "c", small, half)
        self.overlap("c", "d", half, half.with_name("d"))
        self.assertEqual(len(Floor([half, Tile("d", [(1, 0), (1, 1), (0, 1)], EAST)])), 2)

    def test_overlap_of_slanted_tiles(self):
        wedge = shape("w", (0, 0), (9, 1), (1, 9))
        near = shape("n", (6, 6), (9, 2), (9, 9))
        # Apart, though each lies within the rows and columns of the other one.
        self.assertEqual(len(Floor([wedge, near])), 2)
        self.overlap("w", "n", wedge, shape("n", (4, 5), (9, 2), (9, 9)))
        self.overlap("n", "w", shape("n", (4, 5), (9, 2), (9, 9)), wedge)
        # No corner of one lies in the other one.
        self.overlap("w", "x", wedge, shape("x", (-1, 4), (9, 2), (9, 3)))
        self.overlap("w", "x", wedge, shape("x", (2, 2), (3, 2), (2, 3)))
        # Only a side of the second one keeps both apart.
        self.assertEqual(len(Floor([wedge, shape("s", (9, 5), (20, -30), (20, 30))])), 2)
        self.assertEqual(len(Floor([shape("s", (9, 5), (20, -30), (20, 30)), wedge])), 2)
        self.overlap("w", "s", wedge, shape("s", (4, 4), (20, -30), (20, 30)))

    def test_tiles_that_touch(self):
        self.assertEqual(len(Floor([A, B, box("c", (4, 4), (8, 8)), box("d", (-4, -4), (0, 0))])), 4)
        self.assertEqual(len(Floor([A, shape("t", (4, 0), (9, 1), (4, 4))])), 2)
        self.assertEqual(len(Floor([A, shape("t", (4, 4), (9, 5), (5, 9))])), 2)
        self.assertEqual(len(Floor([A, shape("t", (4, 4), (5, -9), (9, 9))])), 2)

    def test_the_earliest_pair_counts(self):
        one, two, three, four = [box(name, (at * 10, 0), (at * 10 + 4, 4)) for at, name in enumerate("pqrs")]
        self.overlap("p", "s", one, two, box("r", (12, 1), (13, 2)), box("s", (1, 1), (2, 2)))
        self.overlap("p", "r", one, two, box("r", (1, 1), (2, 2)), box("s", (1, 1), (2, 2)))
        self.overlap("q", "s", one, two, three, box("s", (12, 1), (13, 2)))
        self.overlap("r", "s", one, two, three, box("s", (20, 0), (24, 4)))

    def loose(self, corner, *tiles):
        refused(self, LooseCorner, [corner], Floor, list(tiles))

    def test_loose_corners(self):
        self.loose((4, 2), A, box("b", (4, 0), (8, 2)))
        self.loose((4, 2), box("b", (4, 0), (8, 2)), A)
        self.loose((4, 1), A, box("b", (4, 1), (8, 3)))
        self.loose((4, 4), A, box("b", (4, 3), (8, 9)))
        self.loose((4, 3), box("b", (4, 3), (8, 9)), A)
        self.loose((4, 0), A, box("b", (4, -4), (8, 4)))
        self.loose((4, 2), A, shape("t", (4, 2), (9, 1), (9, 5)))
        self.loose((2, 4), A, shape("t", (2, 4), (6, 8), (1, 9)))
        wedge = shape("w", (0, 0), (9, 3), (0, 9))
        self.loose((3, 1), wedge, shape("t", (3, 1), (4, -9), (9, 0)))
        self.assertEqual(len(Floor([wedge, shape("t", (4, 1), (4, -9), (9, 0))])), 2)

    def test_the_first_loose_corner_counts(self):
        big = box("a", (0, 0), (12, 12))
        small, smaller = box("b", (12, 2), (16, 6)), box("c", (3, 12), (5, 16))
        self.loose((12, 2), big, small, smaller)
        self.loose((5, 12), big, Tile("c", smaller.corners[1:] + smaller.corners[:1], EAST), small)
        self.loose((12, 6), big, Tile("b", small.corners[3:] + small.corners[:3], EAST), smaller)
        # The corners of the first tile come first, whichever tile has the side.
        wide = box("w", (-4, 12), (16, 16))
        self.loose((12, 12), big, wide, small)
        self.loose((12, 2), small, big, wide)

    def wall(self, value, *walls):
        refused(self, InvalidWall, [value], Floor, [A, B], list(walls))
        refused(self, InvalidWall, [value], Floor, [A, B], tuple(walls))

    def test_walls(self):
        for side in SIDES:
            if side != MIDDLE:
                self.wall(side, side)
        self.wall(MIDDLE[::-1], MIDDLE[::-1])
        self.wall(MIDDLE, MIDDLE, MIDDLE)
        self.wall(MIDDLE, MIDDLE, MIDDLE, None)
        self.wall(None, MIDDLE, None, MIDDLE)
        self.wall(SIDES[1], SIDES[1], MIDDLE, MIDDLE)
        for value in STRANGE + LISTS + NEAR_SIDES + [[MIDDLE], ((4, False), (4, 4)), ((4, 0), (4, 4), (4, 4))]:
            self.wall(value, value)
            self.wall(value, MIDDLE, value, None)

    def test_order_of_the_errors(self):
        many = row_of_boxes(17)
        again = [A, A]
        refused(self, InvalidTiles, [17], Floor, many + [None], [None])
        refused(self, TooMany, [16], Floor, many[:16] + [A], [None])
        refused(self, DuplicateName, ["a"], Floor, again, [None])
        refused(self, Overlap, ["a", "b"], Floor, [A, A.with_name("b"), box("c", (4, 1), (8, 3))], [None])
        refused(self, LooseCorner, [(4, 1)], Floor, [A, box("c", (4, 1), (8, 3))], [None])
        refused(self, InvalidWall, [None], Floor, [A, B], [None])


class PlaceTests(unittest.TestCase):
    def setUp(self):
        self.floor = pair_floor(walls=[MIDDLE])

    def test_places(self):
        for side in SIDES:
            for ratio in [HALF, Ratio(1, 10 ** 50), Ratio(10 ** 50 - 1, 10 ** 50), Ratio(2, 3)]:
                self.assertIs(self.floor.is_place((side, ratio)), True)

    def test_values_that_are_no_places(self):
        outside = [Ratio(0), Ratio(1), Ratio(-1, 2), Ratio(3, 2), Ratio(-1), Ratio(10 ** 50 + 1, 10 ** 50), Ratio(2)]
        wrong = [(SIDES[0], ratio) for ratio in outside]
        wrong += [(SIDES[0], value) for value in (None, True, 0, 1, "1/2", (1, 2), SIDES[0], A, [HALF])]
        wrong += [(value, HALF) for value in STRANGE + LISTS + NEAR_SIDES + [((0, 0), (8, 0))]]
        wrong += [[SIDES[0], HALF], (SIDES[0],), (SIDES[0], HALF, HALF), (HALF, SIDES[0]), SIDES[0], HALF, (0, 4)]
        for value in STRANGE + LISTS + NEAR_SIDES + wrong:
            self.assertIs(self.floor.is_place(value), False, repr(value))
            refused(self, InvalidPlace, [value], self.floor.point, value)

    def test_points(self):
        rows = [
            (((0, 0), (0, 4)), HALF, Ratio(0), Ratio(2)),
            (((4, 0), (8, 0)), Ratio(1, 4), Ratio(5), Ratio(0)),
            (((4, 4), (8, 4)), Ratio(1, 3), Ratio(16, 3), Ratio(4)),
            (MIDDLE, Ratio(7, 8), Ratio(4), Ratio(7, 2)),
        ]
        for side, ratio, x, y in rows:
            told = self.floor.point((side, ratio))
            self.assertIs(told.__class__, tuple)
            self.assertEqual(told, (x, y))

    def test_points_of_slanted_sides(self):
        floor = Floor([Tile("a", [(-3, 5), (1, -2), (7, 3)], ((1, 0), (3, 1)))])
        self.assertEqual(floor.point((((-3, 5), (1, -2)), Ratio(1, 4))), (Ratio(-2), Ratio(13, 4)))
        self.assertEqual(floor.point((((-3, 5), (7, 3)), HALF)), (Ratio(2), Ratio(4)))
        self.assertEqual(floor.point((((1, -2), (7, 3)), Ratio(2, 3))), (Ratio(5), Ratio(4, 3)))


class ModelTests(unittest.TestCase):
    """Floors by chance, of which each answer is found in another way."""

    def test_kinds_by_points_beside_the_side(self):
        chance = Random(7)
        for _ in range(25):
            floor = random_floor(chance, chance.randint(1, 3), chance.randint(1, 3), split=chance.random() < 0.3)
            shared = [side for side in floor.sides() if len(floor.tiles_at(side)) == 2]
            walls = chance.sample(shared, len(shared) // 3)
            floor = Floor(floor.tiles(), walls)
            for side in floor.sides():
                gates = self.gates(floor, side)
                kind = {(True,): "spring", (False,): "rest", (False, True): "pass"}[tuple(sorted(set(gates.values())))]
                self.assertEqual(floor.kind(side), "wall" if side in walls else kind)
                self.assertEqual(floor.tiles_at(side), list(gates))
                into = [name for name in gates if gates[name] and side not in walls]
                self.assertEqual(floor.into(side), into)

    def gates(self, floor, side):
        """For each tile beside the middle of a side, whether a ball at the middle can be blown into it."""
        gates = {}
        (a, b), (c, d) = side
        for tile in floor.tiles():
            for sign in (1, -1):
                # A point a little to the left or to the right of the middle.
                x = Fraction(a + c, 2) - sign * Fraction(d - b, 10 ** 6)
                y = Fraction(b + d, 2) + sign * Fraction(c - a, 10 ** 6)
                if self.holds(tile, (x, y)):
                    gates[tile.label] = cross((c - a, d - b), tile.winds[0]) * sign > 0
        return gates

    def holds(self, tile, point):
        corners = tile.corners
        for at, (x, y) in enumerate(corners):
            p, q = corners[at - 1]
            if cross((x - p, y - q), (point[0] - p, point[1] - q)) < 0:
                return False
        return True


class ExampleTests(unittest.TestCase):
    def test_held_floor(self):
        floor = held_floor()
        kinds = {side: floor.kind(side) for side in floor.sides()}
        self.assertEqual(len(kinds), 12)
        inner = [side for side in kinds if (0, 0) in side]
        self.assertEqual([kinds[side] for side in inner], ["pass"] * 4)
        self.assertEqual(sorted(kinds.values()), ["pass"] * 4 + ["rest"] * 4 + ["spring"] * 4)


if __name__ == "__main__":
    unittest.main()
