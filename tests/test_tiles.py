import unittest

from kit import EAST, LISTS, NEAR_SIDES, STRANGE, refused

from gustfloor import tiles
from gustfloor.errors import InvalidCorners, InvalidName, InvalidWinds, NotConvex, SplitSide, UnknownSide
from gustfloor.tiles import Tile

SQUARE = [(0, 0), (4, 0), (4, 4), (0, 4)]
OCTAGON = [(2, 0), (4, 0), (6, 2), (6, 4), (4, 6), (2, 6), (0, 4), (0, 2)]
STRAIGHT = [(0, 0), (2, 0), (4, 0), (4, 2), (4, 4), (2, 4), (0, 4), (0, 2)]
TRIANGLE = [(0, 0), (4, 1), (1, 4)]
SIDES = [((0, 0), (4, 0)), ((4, 0), (4, 4)), ((0, 4), (4, 4)), ((0, 0), (0, 4))]
BAD_NAMES = ["", "abcdefghi", "A", "a1", "a b", None, 1, True, ("a",), ["a"]]


class ToldTests(unittest.TestCase):
    def test_interface(self):
        self.assertEqual(Tile.__module__, "gustfloor.tiles")
        self.assertIs(tiles.Tile, Tile)
        words = [
            "label", "corners", "winds", "sides", "lets_in", "with_name", "with_winds", "turned", "box", "__eq__",
            "__len__", "__repr__",
        ]
        for word in words:
            self.assertIn(word, Tile.__dict__)
        self.assertEqual(Tile.MOST, 8)
        self.assertEqual(Tile("a", SQUARE, EAST).MOST, 8)

    def test_properties(self):
        tile = Tile("abcdefgh", SQUARE, EAST)
        self.assertEqual(tile.label, "abcdefgh")
        self.assertIs(tile.corners.__class__, tuple)
        self.assertEqual(tile.corners, tuple(SQUARE))
        self.assertIs(tile.winds.__class__, tuple)
        self.assertEqual(tile.winds, EAST)

    def test_lists_and_tuples_may_be_passed(self):
        made = [Tile("a", corners, winds) for corners in (SQUARE, tuple(SQUARE)) for winds in (EAST, list(EAST))]
        for tile in made:
            self.assertEqual(tile, made[0])
            self.assertIs(tile.corners.__class__, tuple)
            self.assertIs(tile.winds.__class__, tuple)
            self.assertEqual(tile.sides(), SIDES)

    def test_parameters_by_name(self):
        tile = Tile(winds=EAST, corners=SQUARE, name="a")
        self.assertEqual(tile, Tile("a", SQUARE, EAST))
        self.assertEqual(tile.with_name(name="b").label, "b")
        self.assertEqual(tile.with_winds(second=(1, 3), first=(1, 1)).winds, ((1, 1), (1, 3)))
        self.assertIs(tile.lets_in(side=SIDES[0]), True)
        self.assertEqual(Tile.box(winds=EAST, high=(4, 4), low=(0, 0), name="a"), tile)

    def test_sides_in_the_order_of_the_corners(self):
        self.assertEqual(Tile("a", SQUARE, EAST).sides(), SIDES)
        later = SQUARE[2:] + SQUARE[:2]
        self.assertEqual(Tile("a", later, EAST).sides(), SIDES[2:] + SIDES[:2])
        sides = [((0, 0), (4, 1)), ((1, 4), (4, 1)), ((0, 0), (1, 4))]
        self.assertEqual(Tile("a", TRIANGLE, ((1, 1), (2, 3))).sides(), sides)

    def test_corners_at_which_the_boundary_goes_straight_on(self):
        tile = Tile("a", STRAIGHT, EAST)
        self.assertEqual(len(tile), 8)
        self.assertEqual(tile.sides(), [
            ((0, 0), (2, 0)), ((2, 0), (4, 0)), ((4, 0), (4, 2)), ((4, 2), (4, 4)), ((2, 4), (4, 4)), ((0, 4), (2, 4)),
            ((0, 2), (0, 4)), ((0, 0), (0, 2)),
        ])
        gates = [tile.lets_in(side) for side in tile.sides()]
        self.assertEqual(gates, [True, True, False, False, False, False, True, True])
        self.assertEqual(len(Tile("a", [(0, 0), (2, 0), (4, 0), (0, 4)], EAST)), 4)
        self.assertEqual(len(Tile("a", [(1, 0), (2, 0), (4, 0), (0, 4), (0, 0)], EAST)), 5)

    def test_lets_in(self):
        rows = [
            (EAST, [True, False, False, True]),
            (((-1, 1), (-2, 1)), [True, True, False, False]),
            (((-1, -1), (-1, -2)), [False, True, True, False]),
            (((1, -1), (2, -1)), [False, False, True, True]),
        ]
        for winds, gates in rows:
            tile = Tile("a", SQUARE, winds)
            for side, gate in zip(SIDES, gates):
                self.assertIs(tile.lets_in(side), gate)

    def test_each_tile_lets_in_and_out(self):
        for corners in (OCTAGON, STRAIGHT, TRIANGLE, SQUARE):
            tile = Tile("a", corners, ((5, 7), (5, 8)))
            self.assertEqual({tile.lets_in(side) for side in tile.sides()}, {True, False})

    def test_lets_in_of_what_is_no_side(self):
        tile = Tile("a", SQUARE, EAST)
        others = [((0, 0), (4, 4)), ((4, 0), (8, 0)), ((10, 10), (12, 12)), ((0, 0), (10 ** 50, 0))]
        for value in STRANGE + LISTS + NEAR_SIDES + others:
            refused(self, UnknownSide, [value], tile.lets_in, value)

    def test_length(self):
        for many in range(3, 9):
            self.assertEqual(len(Tile("a", OCTAGON[:many], ((4, 7), (3, 7)))), many)

    def test_equal(self):
        tile = Tile("a", SQUARE, EAST)
        self.assertIs(tile == Tile("a", tuple(SQUARE), list(EAST)), True)
        self.assertIs(tile != Tile("a", SQUARE, EAST), False)
        others = [
            Tile("b", SQUARE, EAST),
            Tile("a", SQUARE[1:] + SQUARE[:1], EAST),
            Tile("a", SQUARE, ((1, 1), (1, 3))),
            Tile("a", SQUARE, ((2, 2), (1, 2))),
            Tile("a", [(0, 0), (4, 0), (0, 4)], EAST),
            Tile("a", [(0, 0), (4, 0), (4, 5), (0, 4)], EAST),
            Tile("a", [(0, 0), (2, 0), (4, 0), (4, 4), (0, 4)], EAST),
        ]
        strange = [value for value in STRANGE if not isinstance(value, Tile)]
        for other in others + strange + LISTS + ["a", ("a", tuple(SQUARE), EAST)]:
            self.assertIs(tile == other, False, repr(other))
            self.assertIs(other == tile, False, repr(other))
            self.assertIs(tile != other, True, repr(other))

    def test_repr(self):
        self.assertEqual(repr(Tile("a", SQUARE, EAST)), "Tile(a, 4 corners)")
        self.assertEqual(repr(Tile("pond", STRAIGHT, EAST)), "Tile(pond, 8 corners)")
        self.assertEqual(repr(Tile("b", [(0, 0), (4, 0), (0, 4)], EAST)), "Tile(b, 3 corners)")

    def test_lists_that_are_passed_are_copied(self):
        corners, winds = list(SQUARE), list(EAST)
        tile = Tile("a", corners, winds)
        corners[0], winds[0] = (1, 1), (9, 9)
        corners.append((7, 7))
        self.assertEqual((tile.corners, tile.winds), (tuple(SQUARE), EAST))
        self.assertEqual(tile.sides(), SIDES)
        self.assertEqual(len(tile), 4)

    def test_passed_lists_stay_as_they_are(self):
        corners, winds = list(SQUARE), list(EAST)
        Tile("a", corners, winds)
        self.assertEqual((corners, winds), (SQUARE, list(EAST)))

    def test_returned_lists_are_new(self):
        tile = Tile("a", SQUARE, EAST)
        tile.sides().clear()
        tile.sides().append(((0, 0), (1, 1)))
        self.assertEqual(tile.sides(), SIDES)
        refused(self, UnknownSide, [((0, 0), (1, 1))], tile.lets_in, ((0, 0), (1, 1)))

    def test_numbers_at_the_bounds(self):
        most = 1000000
        corners = [(-most, -most), (most, -most), (most, most), (-most, most)]
        tile = Tile("a", corners, ((most, most - 1), (most - 1, most)))
        self.assertEqual(tile.corners, tuple(corners))
        self.assertEqual(tile.turned().winds, ((-most, 1 - most), (1 - most, -most)))


class RefusedTests(unittest.TestCase):
    def test_names(self):
        for name in BAD_NAMES + STRANGE + LISTS:
            refused(self, InvalidName, [name], Tile, name, SQUARE, EAST)

    def test_corners_that_are_no_list(self):
        for corners in [None, True, 3, "abc", Tile("a", SQUARE, EAST), {0: (0, 0)}]:
            refused(self, InvalidCorners, [0], Tile, "a", corners, EAST)

    def test_values_that_are_no_points(self):
        for value in STRANGE + [[4, 4], [(4, 4)], (4, True), (1000001, 4), (4, -1000001), (4, 4, 4)]:
            for at in range(4):
                corners = list(SQUARE)
                corners[at] = value
                refused(self, InvalidCorners, [at], Tile, "a", corners, EAST)
                refused(self, InvalidCorners, [at], Tile, "a", tuple(corners), EAST)

    def test_corners_that_occur_earlier(self):
        for at, other in [(1, 0), (2, 0), (3, 0), (2, 1), (3, 1), (3, 2)]:
            corners = list(SQUARE)
            corners[at] = corners[other]
            refused(self, InvalidCorners, [at], Tile, "a", corners, EAST)
        refused(self, InvalidCorners, [4], Tile, "a", SQUARE + SQUARE[:1], EAST)

    def test_the_ninth_corner(self):
        nine = [(0, 0), (2, 0), (3, 0), (4, 0), (4, 2), (4, 4), (2, 4), (0, 4), (0, 2)]
        refused(self, InvalidCorners, [8], Tile, "a", nine, EAST)
        refused(self, InvalidCorners, [8], Tile, "a", nine + [(0, 1), (0, 1)], EAST)
        refused(self, InvalidCorners, [8], Tile, "a", nine[:8] + [None], EAST)
        refused(self, InvalidCorners, [8], Tile, "a", nine[:8] + nine[:1], EAST)
        refused(self, InvalidCorners, [7], Tile, "a", nine[:7] + [None] + nine[8:], EAST)
        self.assertEqual(len(Tile("a", nine[:8], EAST)), 8)

    def test_too_few_corners(self):
        for many in range(3):
            refused(self, InvalidCorners, [many], Tile, "a", SQUARE[:many], EAST)
            refused(self, InvalidCorners, [many], Tile, "a", tuple(SQUARE[:many]), EAST)
        refused(self, InvalidCorners, [1], Tile, "a", [(0, 0), (0, 0)], EAST)
        refused(self, InvalidCorners, [0], Tile, "a", [None], EAST)

    def test_the_first_wrong_corner_counts(self):
        refused(self, InvalidCorners, [1], Tile, "a", [(0, 0), (0, 0), None, 3], EAST)
        refused(self, InvalidCorners, [1], Tile, "a", [(0, 0), None, (0, 0), 3], EAST)

    def test_not_convex(self):
        wrong = [
            SQUARE[::-1],
            TRIANGLE[::-1],
            STRAIGHT[::-1],
            # On one line.
            [(0, 0), (2, 2), (4, 4)],
            [(0, 0), (4, 4), (2, 2)],
            [(0, 0), (1, 0), (2, 0), (3, 0)],
            # A dent, and two sides that cross.
            [(0, 0), (4, 0), (1, 1), (0, 4)],
            [(0, 0), (4, 0), (4, 4), (2, 3), (0, 4)],
            [(0, 0), (4, 4), (4, 0), (0, 4)],
            [(0, 0), (4, 0), (0, 4), (4, 4)],
            # Corners of one side in the wrong order.
            [(0, 0), (4, 0), (2, 0), (4, 4), (0, 4)],
            [(2, 0), (0, 0), (4, 0), (4, 4), (0, 4)],
            [(0, 0), (3, 0), (1, 0), (4, 0), (2, 4)],
        ]
        for corners in wrong:
            refused(self, NotConvex, [], Tile, "a", corners, EAST)

    def test_a_boundary_that_goes_round_more_than_once(self):
        five = [(0, 0), (4, 0), (5, 4), (2, 6), (-1, 4)]
        self.assertEqual(len(Tile("a", five, ((1, 2), (1, 3)))), 5)
        for by in (2, 3):
            refused(self, NotConvex, [], Tile, "a", [five[at * by % 5] for at in range(5)], EAST)
        refused(self, NotConvex, [], Tile, "a", [OCTAGON[at * 3 % 8] for at in range(8)], EAST)
        refused(self, NotConvex, [], Tile, "a", [(0, 0), (4, 0), (0, 4), (1, 1), (2, 1), (1, 2)], EAST)
        refused(self, NotConvex, [], Tile, "a", [(0, 0), (4, 0), (0, 4), (2, 0), (2, 2), (0, 2)], EAST)

    def test_winds(self):
        wrong = [
            [], [(1, 1)], [(1, 1), (1, 2), (1, 3)], ((1, 1),), (), [(1, 2), (1, 1)], [(1, 1), (1, 1)],
            [(1, 1), (-1, -1)], [(1, 1), (2, 2)], [(0, 0), (1, 2)], [(1, 1), (0, 0)], [[1, 1], (1, 2)],
            [(1, 1), [1, 2]], [(True, 1), (1, 2)], [(1, 1), (True, 2)], [(1, 1), (1, 1000001)],
            [(1000001, 1), (1, 2)], [(1, 1), None], ["a", "b"], [(1, 1, 1), (1, 2)], {(1, 1): 1, (1, 2): 2},
        ]
        for winds in STRANGE + LISTS + wrong:
            refused(self, InvalidWinds, [], Tile, "a", SQUARE, winds)

    def test_split_sides(self):
        low, right, top, left = SIDES
        rows = [
            # Along a side: the first wind, the second one.
            ([(1, 0), (1, 1)], low), ([(1, 1), (0, 1)], right), ([(0, 1), (-1, 1)], right), ([(-1, 1), (-1, 0)], low),
            # On both sides of one.
            ([(1, -1), (1, 1)], low), ([(1, 1), (-1, 1)], right), ([(-1, 1), (-1, -1)], low),
            ([(-1, -1), (1, -1)], right), ([(1, -1), (-1, 1000000)], low),
        ]
        for winds, side in rows:
            refused(self, SplitSide, [side], Tile, "a", SQUARE, winds)
        refused(self, SplitSide, [top], Tile, "a", SQUARE[2:] + SQUARE[:2], [(1, -1), (1, 1)])
        refused(self, SplitSide, [left], Tile, "a", SQUARE[3:] + SQUARE[:3], [(1, 1), (-1, 1)])
        refused(self, SplitSide, [((1, 4), (4, 1))], Tile, "a", TRIANGLE, [(1, -1), (1, 0)])
        refused(self, SplitSide, [((0, 0), (4, 1))], Tile, "a", TRIANGLE, [(4, 1), (1, 1)])

    def test_order_of_the_errors(self):
        refused(self, InvalidName, [""], Tile, "", [None], None)
        refused(self, InvalidCorners, [3], Tile, "a", [(0, 0), (1, 1), (2, 2), None], None)
        refused(self, NotConvex, [], Tile, "a", SQUARE[::-1], None)
        refused(self, InvalidWinds, [], Tile, "a", SQUARE, [(1, 0), (1, 0)])
        refused(self, SplitSide, [SIDES[0]], Tile, "a", SQUARE, [(1, 0), (1, 1)])


class BoxTests(unittest.TestCase):
    def test_corners_in_order(self):
        tile = Tile.box("a", (-1, 2), (5, 3), EAST)
        self.assertIs(tile.__class__, Tile)
        self.assertEqual(tile, Tile("a", [(-1, 2), (5, 2), (5, 3), (-1, 3)], EAST))

    def test_refused(self):
        for name in BAD_NAMES:
            refused(self, InvalidName, [name], Tile.box, name, None, None, None)
        for value in STRANGE + LISTS + [(0, 1000001)]:
            refused(self, InvalidCorners, [0], Tile.box, "a", value, None, None)
            refused(self, InvalidCorners, [0], Tile.box, "a", value, (4, 4), EAST)
            refused(self, InvalidCorners, [2], Tile.box, "a", (0, 0), value, None)

    def test_refused_as_by_the_constructor(self):
        refused(self, InvalidCorners, [1], Tile.box, "a", (0, 0), (0, 4), None)
        refused(self, InvalidCorners, [1], Tile.box, "a", (0, 0), (0, 0), None)
        refused(self, InvalidCorners, [2], Tile.box, "a", (0, 0), (4, 0), None)
        refused(self, NotConvex, [], Tile.box, "a", (4, 0), (0, 4), None)
        refused(self, NotConvex, [], Tile.box, "a", (0, 4), (4, 0), None)
        refused(self, InvalidWinds, [], Tile.box, "a", (0, 0), (4, 4), [(1, 2), (1, 1)])
        refused(self, SplitSide, [SIDES[1]], Tile.box, "a", (0, 0), (4, 4), [(1, 1), (0, 1)])
        self.assertEqual(Tile.box("a", (4, 4), (8, 8), EAST).corners[2], (8, 8))


class OtherTileTests(unittest.TestCase):
    def setUp(self):
        self.tile = Tile("a", SQUARE, EAST)

    def tearDown(self):
        self.assertEqual(self.tile, Tile("a", SQUARE, EAST))
        self.assertEqual([self.tile.lets_in(side) for side in SIDES], [True, False, False, True])

    def test_with_name(self):
        self.assertEqual(self.tile.with_name("bc"), Tile("bc", SQUARE, EAST))
        for name in BAD_NAMES + STRANGE:
            refused(self, InvalidName, [name], self.tile.with_name, name)

    def test_with_winds(self):
        other = self.tile.with_winds((-1, 1), (-2, 1))
        self.assertEqual(other, Tile("a", SQUARE, ((-1, 1), (-2, 1))))
        self.assertEqual([other.lets_in(side) for side in SIDES], [True, True, False, False])

    def test_with_winds_refused(self):
        for value in STRANGE + LISTS:
            refused(self, InvalidWinds, [], self.tile.with_winds, value, (1, 2))
            refused(self, InvalidWinds, [], self.tile.with_winds, (1, 1), value)
        refused(self, InvalidWinds, [], self.tile.with_winds, (1, 2), (1, 1))
        refused(self, InvalidWinds, [], self.tile.with_winds, (1, 1), (3, 3))
        refused(self, SplitSide, [SIDES[0]], self.tile.with_winds, (1, 0), (1, 1))
        refused(self, SplitSide, [SIDES[1]], self.tile.with_winds, (1, 1), (-1, 1))

    def test_turned(self):
        other = self.tile.turned()
        self.assertEqual(other, Tile("a", SQUARE, ((-1, -1), (-1, -2))))
        self.assertEqual([other.lets_in(side) for side in SIDES], [False, True, True, False])
        self.assertEqual(other.turned(), self.tile)
        for corners, winds in ((OCTAGON, ((7, 5), (6, 5))), (TRIANGLE, ((-3, -5), (-1, -2)))):
            tile = Tile("a", corners, winds)
            for side in tile.sides():
                self.assertIs(tile.turned().lets_in(side), not tile.lets_in(side))


if __name__ == "__main__":
    unittest.main()
