import unittest
from random import Random

from kit import (
    ANY, EAST, HALF, HELD_LOOP, HOLE_LOOP, LOW, MIDDLE, UPPER, held_floor, pair_floor, random_floor, random_place,
    refused, shrinking_floor,
)

from gustfloor import texts
from gustfloor.changes import walled
from gustfloor.errors import InvalidText
from gustfloor.floors import Floor
from gustfloor.ratios import Ratio
from gustfloor.texts import (
    chart, floor_text, place_text, read_floor, read_place, read_side, read_way, side_text, way_text,
)
from gustfloor.tiles import Tile
from gustfloor.ways import find_way

A, B = "tile a 0,0 4,0 4,4 0,4 | 1,1 1,2\n", "tile b 4,0 8,0 8,4 4,4 | 1,1 1,2\n"
WALL = "wall 4,0:4,4\n"
# Values that are no strings.
NO_STRINGS = [value for value in ANY if not isinstance(value, str)] + [pair_floor(), {1: 2}, b"0,0:4,0"]
BAD_NUMBERS = [
    "+4", "04", "-0", "00", "", " 4", "4 ", "--4", "4.0", "4e0", "0x4", "1_0", "four", "-", "1000001", "-1000001",
    "9" * 5000, "4\n", "\u0664", "4\t",
]
BAD_RATIOS = [
    "", "0", "1", "2", "-1/2", "3/2", "2/4", "0/1", "0/5", "1/0", "1/1", "5/5", "+1/2", "01/2", "1/02", "1/-2", "-0",
    "1/2/3", "1 /2", "1/ 2", " 1/2", "1/2 ", "1/2\n", "0.5", "1:2", "half", "/", "1/", "/2", "-1/-2", "\u0661/\u0662",
]


def row_of_lines(many):
    """The lines of so many boxes in a row."""
    return [
        f"tile {'abcdefghijklmnopqrst'[at]} {4 * at},0 {4 * at + 4},0 {4 * at + 4},4 {4 * at},4 | 1,1 1,2\n"
        for at in range(many)
    ]


class WriteTests(unittest.TestCase):
    def test_interface(self):
        written = ("chart", "floor_text", "place_text", "side_text", "way_text")
        for name in written + ("read_floor", "read_place", "read_side", "read_way"):
            self.assertEqual(getattr(texts, name).__module__, "gustfloor.texts")

    def test_sides_and_places(self):
        side = ((-1000000, 7), (0, -3))
        self.assertEqual(side_text(side), "-1000000,7:0,-3")
        self.assertEqual(side_text(side=LOW), "0,0:4,0")
        self.assertEqual(place_text((LOW, HALF)), "0,0:4,0@1/2")
        self.assertEqual(place_text(place=(side, Ratio(12, 13))), "-1000000,7:0,-3@12/13")

    def test_floors(self):
        self.assertEqual(floor_text(pair_floor()), A + B)
        self.assertEqual(floor_text(floor=pair_floor(walls=[MIDDLE])), A + B + WALL)
        turned_round = Floor(pair_floor().tiles()[::-1])
        self.assertEqual(floor_text(turned_round), B + A)
        tile = Tile("long", [(4, 4), (-3, 4), (-2, -1000000)], ((-2, -1), (-1, -1)))
        self.assertEqual(floor_text(Floor([tile])), "tile long 4,4 -3,4 -2,-1000000 | -2,-1 -1,-1\n")

    def test_walls_ascend(self):
        floor = held_floor()
        for side in (HELD_LOOP[0], HELD_LOOP[3], HELD_LOOP[2]):
            floor = walled(floor, side)
        walls = "wall -2,0:0,0\nwall 0,-2:0,0\nwall 0,0:2,0\n"
        self.assertTrue(floor_text(floor).endswith("| 1,-2 1,-1\n" + walls))
        self.assertEqual(len(floor_text(floor).split("\n")), 8)

    def test_ways(self):
        places = [(LOW, HALF), (MIDDLE, Ratio(3, 4)), (UPPER, Ratio(1, 4))]
        self.assertEqual(way_text(places), "0,0:4,0@1/2\n4,0:4,4@3/4\n4,4:8,4@1/4\n")
        self.assertEqual(way_text(places=tuple(places[:1])), "0,0:4,0@1/2\n")
        self.assertEqual(way_text([]), "")

    def test_chart(self):
        self.assertEqual(chart(pair_floor(walls=[MIDDLE])), "".join([
            "0,0:0,4                 spring   1\n",
            "0,0:4,0                 spring   1\n",
            "0,4:4,4                 rest     0\n",
            "4,0:4,4                 wall     0\n",
            "4,0:8,0                 spring   1\n",
            "4,4:8,4                 rest     0\n",
            "8,0:8,4                 rest     0\n",
        ]))
        self.assertEqual(chart(floor=pair_floor()).split("\n")[3], "4,0:4,4                 pass     1")
        apart = Floor([Tile.box("a", (0, 0), (4, 4), ((-1, 2), (-1, 1))), Tile.box("b", (4, 0), (8, 4), EAST)])
        self.assertEqual(chart(apart).split("\n")[3], "4,0:4,4                 spring   2")

    def test_long_words_in_a_chart(self):
        low, high = (-1000000, -1000000), (1000000, 1000000)
        lines = chart(Floor([Tile.box("a", low, high, EAST)])).split("\n")
        self.assertEqual(lines[0], "-1000000,-1000000:-1000000,1000000spring   1")
        self.assertEqual(len(lines), 5)
        lines = chart(Floor([Tile.box("a", (0, 0), (100000, 100000), EAST)])).split("\n")
        # Just 24 characters.
        self.assertEqual(lines[2], "0,100000:100000,100000  rest     0")


class ReadSideTests(unittest.TestCase):
    def test_there_and_back(self):
        for side in held_floor().sides() + pair_floor().sides() + [((-1000000, 5), (1000000, -1000000))]:
            self.assertEqual(read_side(side_text(side)), side)
        self.assertEqual(read_side(text="-3,4:-3,5"), ((-3, 4), (-3, 5)))

    def test_wrong_texts(self):
        wrong = [
            "", ":", ",:,", "0,0", "0,0:", ":4,0", "0,0:4", "0:4,0", "0,0:4,0:", "0,0:4,0:8,0", "0,0,0:4,0",
            "0,0:4,0,0", "4,0:0,0", "0,4:0,0", "0,0:0,0", "0,0 4,0", "0,0: 4,0", "0,0 :4,0", "0, 0:4,0", "0,0:4,0\n",
            "\n0,0:4,0",
            "0,0:4,0@1/2", "wall 0,0:4,0", "0;0:4;0", "(0,0):(4,0)",
        ]
        wrong += [f"0,0:{number},0" for number in BAD_NUMBERS] + [f"0,0:4,{number}" for number in BAD_NUMBERS]
        wrong += [f"{number},0:4,0" for number in BAD_NUMBERS if number != "-1000001"]
        for text in wrong:
            refused(self, InvalidText, [0], read_side, text)
        refused(self, InvalidText, [0], read_side, "-1000001,0:4,0")

    def test_any_values(self):
        for value in NO_STRINGS + [LOW, (LOW, HALF)]:
            refused(self, InvalidText, [0], read_side, value)
            refused(self, InvalidText, [0], read_place, text=value)


class ReadPlaceTests(unittest.TestCase):
    def test_there_and_back(self):
        chance = Random(1)
        for _ in range(60):
            place = random_place(chance, held_floor())
            self.assertEqual(read_place(place_text(place)), place)
        self.assertEqual(read_place(text="-3,4:-3,5@1/1000000000000"), (((-3, 4), (-3, 5)), Ratio(1, 10 ** 12)))

    def test_long_ratios(self):
        """What was computed may be written and read whatever its size."""
        for many in (999, 1000, 4999):
            place = (LOW, Ratio(10 ** many + 1, 3 * 10 ** many + 1))
            self.assertEqual(read_place(place_text(place)), place)
        refused(self, InvalidText, [0], read_place, "0,0:4,0@" + "9" * 9000 + "/" + "8" * 9000)
        refused(self, InvalidText, [0], read_place, "0,0:4,0@1/0" + "8" * 9000)

    def test_wrong_texts(self):
        wrong = [
            "", "@", "0,0:4,0", "0,0:4,0@", "@1/2", "0,0:4,0@1/2@1/2", "0,0:4,0 @1/2", "0,0:4,0@ 1/2", "4,0:0,0@1/2",
            "0,0:0,0@1/2", "0,0:04,0@1/2", "0,0@1/2", "1/2@0,0:4,0", "0,0:4,0:1/2", "0,0:4,0@1/2\n",
        ]
        for text in wrong + [f"0,0:4,0@{number}" for number in BAD_RATIOS]:
            refused(self, InvalidText, [0], read_place, text)


class ReadFloorTests(unittest.TestCase):
    def test_there_and_back(self):
        floors = [pair_floor(), pair_floor(walls=[MIDDLE]), held_floor(), walled(held_floor(), HELD_LOOP[1])]
        for seed in range(12):
            chance = Random(seed)
            floor = random_floor(chance, chance.randint(1, 4), chance.randint(1, 4), split=seed % 3 == 0)
            for side in [side for side in floor.sides() if len(floor.tiles_at(side)) == 2][::3]:
                floor = walled(floor, side)
            floors.append(floor)
        for floor in floors:
            text = floor_text(floor)
            self.assertEqual(read_floor(text), floor)
            self.assertEqual(read_floor(text=text).names(), floor.names())
            self.assertEqual(floor_text(read_floor(text)), text)

    def test_no_lines(self):
        for value in NO_STRINGS + ["", [A, B], (A,)]:
            refused(self, InvalidText, [0], read_floor, value)
            refused(self, InvalidText, [0], read_way, value)

    def test_a_last_line_without_its_line_feed_is_looked_at_first(self):
        rows = [
            ("tile", 0), (A[:-1], 0), (A + B[:-1], 1), (A + B + WALL[:-1], 2), ("no\n" + B[:-1], 1), ("no\nno\nno", 2),
            ("\n\n\n ", 3), (A + A + "x", 2), (A + B + WALL + WALL + "wall", 4), (" ", 0),
        ]
        for text, line in rows:
            refused(self, InvalidText, [line], read_floor, text)
            refused(self, InvalidText, [line], read_way, text)

    def test_empty_lines(self):
        for text, line in (("\n", 0), ("\n" + A, 0), (A + "\n", 1), (A + "\n" + B, 1), (A + B + "\n\n", 2)):
            refused(self, InvalidText, [line], read_floor, text)
        for text in (A + "\r\n", A[:-1] + "\r\n"):
            self.assertRaises(InvalidText, read_floor, text)

    def test_wrong_lines_of_tiles(self):
        wrong = [
            # Spaces, words that are missing, and additional words.
            "tile  a 0,0 4,0 4,4 0,4 | 1,1 1,2", " tile a 0,0 4,0 4,4 0,4 | 1,1 1,2",
            "tile a 0,0 4,0 4,4 0,4 | 1,1 1,2 ", "tile a 0,0 4,0  4,4 0,4 | 1,1 1,2",
            "tile a 0,0 4,0 4,4 0,4 |  1,1 1,2", "tile a 0,0 4,0 4,4 0,4 | 1,1  1,2",
            "tile a 0,0 4,0 4,4 0,4  | 1,1 1,2", "tile 0,0 4,0 4,4 0,4 | 1,1 1,2",
            "tile a 0,0 4,0 4,4 0,4 1,1 1,2", "tile a 0,0 4,0 4,4 0,4 | 1,1", "tile a 0,0 4,0 4,4 0,4 |",
            "tile a 0,0 4,0 4,4 0,4", "tile a | 1,1 1,2", "tile a", "tile", "tile | 1,1 1,2",
            "a 0,0 4,0 4,4 0,4 | 1,1 1,2", "tiles a 0,0 4,0 4,4 0,4 | 1,1 1,2", "Tile a 0,0 4,0 4,4 0,4 | 1,1 1,2",
            "tile a 0,0 4,0 4,4 0,4 | 1,1 1,2 1,3", "tile a b 0,0 4,0 4,4 0,4 | 1,1 1,2",
            "tile a 0,0 4,0 4,4 0,4 | | 1,1 1,2", "tile a 0,0 4,0 | 4,4 0,4 | 1,1 1,2",
            "tile a 0,0 4,0 4,4 0,4 1,1 1,2 |", "tile a 0,0 4,0 4,4 0,4| 1,1 1,2",
            "tile a 0,0 4,0 4,4 0,4 / 1,1 1,2", "tile a 0,0 4,0 4,4 0,4 0,2 1,1 1,2", "tile | 0,0 1,1",
            "tile a 0,0 4,0 4,4 0,4 || 1,1 1,2", "tile a 0,0 4,0 4,4 0,4 | 1,1 | 1,2", "tile a 0,0\t4,0 4,4 0,4 | 1,1 1,2",
            # Names.
            "tile A 0,0 4,0 4,4 0,4 | 1,1 1,2", "tile abcdefghi 0,0 4,0 4,4 0,4 | 1,1 1,2",
            "tile a1 0,0 4,0 4,4 0,4 | 1,1 1,2", "tile  0,0 4,0 4,4 0,4 | 1,1 1,2",
            # Corners in the wrong order, twice, too few, too many, beyond the line, on one line.
            "tile a 0,0 0,4 4,4 4,0 | 1,1 1,2", "tile a 0,0 4,4 4,0 0,4 | 1,1 1,2", "tile a 0,0 4,0 4,4 4,4 | 1,1 1,2",
            "tile a 0,0 4,0 | 1,1 1,2", "tile a 0,0 1000001,0 4,4 | 1,1 1,2", "tile a 0,0 4,0 8,0 | 1,1 1,2",
            "tile a 0,0 1,0 2,0 3,0 4,0 4,4 3,4 2,4 0,4 | 1,1 1,2", "tile a 0,0 4,0 1,1 0,4 | 1,1 1,2",
            # Winds that are none, in the wrong order, or along a side.
            "tile a 0,0 4,0 4,4 0,4 | 0,0 1,2", "tile a 0,0 4,0 4,4 0,4 | 1,2 1,1", "tile a 0,0 4,0 4,4 0,4 | 1,1 2,2",
            "tile a 0,0 4,0 4,4 0,4 | 1,0 1,1", "tile a 0,0 4,0 4,4 0,4 | 1,1 0,1", "tile a 0,0 4,0 4,4 0,4 | 1 1,2",
        ]
        wrong += [f"tile a 0,0 {number},0 4,4 0,4 | 1,1 1,2" for number in BAD_NUMBERS if "\n" not in number]
        wrong += [f"tile a 0,0 4,{number} 4,4 0,4 | 1,1 1,2" for number in BAD_NUMBERS if "\n" not in number]
        wrong += [f"tile a 0,0 4,0 4,4 0,4 | 1,{number} 1,5" for number in BAD_NUMBERS if "\n" not in number]
        for line in wrong:
            refused(self, InvalidText, [0], read_floor, line + "\n")
            refused(self, InvalidText, [0], read_floor, line + "\n" + B + WALL)
            refused(self, InvalidText, [1], read_floor, B + line + "\n")
            refused(self, InvalidText, [2], read_floor, B + row_of_lines(3)[2] + line + "\n" + "no\n")

    def test_lines_of_tiles_that_make_no_floor(self):
        rows = [
            # A repeated name, an overlap, a loose corner of the new tile, and one of an earlier tile.
            (A + "tile a 4,0 8,0 8,4 4,4 | 1,1 1,2\n", 1), (A + B + B, 2), (A + A, 1),
            (A + "tile b 3,0 8,0 8,4 3,4 | 1,1 1,2\n", 1), (A + B + "tile c 2,2 6,2 6,6 2,6 | 1,1 1,2\n" + "no\n", 2),
            (A + "tile b 4,2 8,2 8,4 4,4 | 1,1 1,2\n", 1), (A + "tile b 4,-4 8,-4 8,8 4,8 | 1,1 1,2\n" + "no\n", 1),
        ]
        for text, line in rows:
            refused(self, InvalidText, [line], read_floor, text)

    def test_the_seventeenth_tile(self):
        lines = row_of_lines(18)
        self.assertEqual(len(read_floor("".join(lines[:16]))), 16)
        refused(self, InvalidText, [16], read_floor, "".join(lines[:17]))
        refused(self, InvalidText, [16], read_floor, "".join(lines))
        refused(self, InvalidText, [16], read_floor, "".join(lines[:16]) + "tile q\n")
        self.assertEqual(len(read_floor("".join(lines[:16]) + WALL).walls()), 1)

    def test_wrong_lines_of_walls(self):
        wrong = [
            "wall", "wall ", "wall  4,0:4,4", " wall 4,0:4,4", "wall 4,0:4,4 ", "wall 4,0 4,4", "wall 4,4:4,0",
            "walls 4,0:4,4", "Wall 4,0:4,4", "4,0:4,4", "wall 4,0:4,4@1/2", "wall 04,0:4,4", "wall 4,-0:4,4",
            "wall +4,0:4,4", "wall 4,0:4,4 0", "wall wall 4,0:4,4",
            # Sides of one tile, sides of no tile.
            "wall 0,0:4,0", "wall 8,0:8,4", "wall 0,0:4,4", "wall 4,0:4,2", "wall 12,0:12,4", "wall -1,0:0,0", "",
        ]
        for line in wrong:
            refused(self, InvalidText, [2], read_floor, A + B + line + "\n")
            refused(self, InvalidText, [2], read_floor, A + B + line + "\n" + WALL)
            refused(self, InvalidText, [3], read_floor, A + B + WALL + line + "\n" + "no\n")

    def test_the_order_of_the_lines(self):
        three = row_of_lines(3)
        one, two = "wall 4,0:4,4\n", "wall 8,0:8,4\n"
        self.assertEqual(len(read_floor("".join(three) + one + two).walls()), 2)
        rows = [
            # Walls that do not ascend, and a wall twice.
            ("".join(three) + two + one, 4), ("".join(three) + one + one, 4), ("".join(three) + one + two + two, 5),
            # A wall ahead of a tile; if it is no side of two of the tiles above it, it is wrong itself.
            (A + B + one + three[2], 3), (one + A + B, 0), (A + one + B, 1), (A + B + two + three[2], 2),
            (one, 0), (three[0] + three[1] + one + A, 3),
        ]
        for text, line in rows:
            refused(self, InvalidText, [line], read_floor, text)

    def test_other_lines(self):
        for line in ("mark m 0,0:4,0@1/2\n", "floor\n", "0,0:4,0@1/2\n", "#\n"):
            refused(self, InvalidText, [0], read_floor, line)
            refused(self, InvalidText, [2], read_floor, A + B + line)
            refused(self, InvalidText, [3], read_floor, A + B + WALL + line + WALL)


class ReadWayTests(unittest.TestCase):
    def test_there_and_back(self):
        places = [(LOW, HALF), (MIDDLE, Ratio(3, 4)), (UPPER, Ratio(1, 4))]
        for many in (1, 2, 3):
            self.assertEqual(read_way(way_text(places[:many])), places[:many])
        self.assertIs(read_way(text=way_text(places)).__class__, list)
        # Whatever the floor, and whether there are pieces or not.
        given = [(HOLE_LOOP[0], HALF), (LOW, HALF), (LOW, HALF)]
        self.assertEqual(read_way(way_text(given)), given)

    def test_a_long_way(self):
        first = HELD_LOOP[0]
        way = find_way(shrinking_floor(), (first, Ratio(9, 10)), (first, Ratio(1, 100)), most=1000)
        self.assertGreater(len(way), 400)
        self.assertEqual(read_way(way_text(way)), way)

    def test_wrong_lines(self):
        good = "0,0:4,0@1/2\n"
        wrong = ["", " ", "0,0:4,0", "0,0:4,0@1/2 ", " 0,0:4,0@1/2", "0,0:4,0@1/2 0,0:4,0@1/2", "4,0:0,0@1/2"]
        wrong += [f"0,0:4,0@{number}" for number in BAD_RATIOS if "\n" not in number]
        for line in wrong:
            refused(self, InvalidText, [0], read_way, line + "\n")
            refused(self, InvalidText, [0], read_way, line + "\n" + good)
            refused(self, InvalidText, [2], read_way, good + good + line + "\n" + good + "no\n")


if __name__ == "__main__":
    unittest.main()
