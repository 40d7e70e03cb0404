import unittest
from random import Random

from kit import (
    ANY, HALF, HELD_LOOP, LEFT, LOW, MIDDLE, UPPER, held_floor, pair_floor, random_floor, random_place, refused,
)

from gustfloor import pages
from gustfloor.errors import InvalidText, NothingLeft, TooMany
from gustfloor.hall import Hall
from gustfloor.pages import read_page, write_page
from gustfloor.ratios import Ratio
from gustfloor.texts import floor_text

START, NEAR = (LOW, HALF), (UPPER, Ratio(1, 4))
FLOOR = floor_text(pair_floor(walls=[MIDDLE]))
MARKS = ["mark m 0,0:4,0@1/2\n", "mark n 4,4:8,4@1/4\n", "mark o 4,0:4,4@2/3\n"]
FORTY = [f"{one}{other}" for one in "abcd" for other in "abcdefghij"]


def hall_with(floor, **places):
    hall = Hall(floor)
    for name, place in places.items():
        hall.apply(("mark", name, place))
    return hall


class PageTests(unittest.TestCase):
    def test_interface(self):
        for name in ("write_page", "read_page"):
            self.assertEqual(getattr(pages, name).__module__, "gustfloor.pages")

    def test_written(self):
        self.assertEqual(write_page(Hall(pair_floor())), floor_text(pair_floor()))
        hall = hall_with(pair_floor(walls=[MIDDLE]), o=(MIDDLE, Ratio(2, 3)), m=START, n=NEAR)
        self.assertEqual(write_page(hall), FLOOR + "".join(MARKS))
        self.assertEqual(write_page(hall=hall), write_page(hall.twin()))
        hall = hall_with(pair_floor(), b=START, ab=NEAR, a=START)
        names = [line.split(" ")[1] for line in write_page(hall).split("\n")[2:5]]
        self.assertEqual(names, ["a", "ab", "b"])

    def test_read(self):
        hall = read_page(FLOOR + "".join(MARKS))
        self.assertIs(hall.__class__, Hall)
        self.assertEqual(hall, hall_with(pair_floor(walls=[MIDDLE]), o=(MIDDLE, Ratio(2, 3)), m=START, n=NEAR))
        self.assertEqual((hall.limit, hall.history(), hall.kept_pairs(), hall.computed), (40, (0, 0), [], 0))
        self.assertIs(hall.busy, False)
        refused(self, NothingLeft, [], hall.undo)
        self.assertEqual(len(read_page(text=floor_text(held_floor()))), 0)

    def test_there_and_back(self):
        halls = [Hall(pair_floor()), Hall(held_floor()), hall_with(held_floor(), a=(HELD_LOOP[0], Ratio(1, 10 ** 90)))]
        for seed in range(12):
            chance = Random(seed)
            floor = random_floor(chance, chance.randint(1, 3), 2, split=seed % 4 == 0)
            hall = Hall(floor)
            for side in [side for side in floor.sides() if len(floor.tiles_at(side)) == 2][::2]:
                hall.apply(("wall", side))
            for name in chance.sample(FORTY, 9):
                hall.apply(("mark", name, random_place(chance, floor)))
            halls.append(hall)
        for hall in halls:
            again = read_page(write_page(hall))
            self.assertEqual(again, hall)
            self.assertEqual(again.floor.names(), hall.floor.names())
            self.assertEqual(write_page(again), write_page(hall))
            self.assertEqual((again.limit, again.history()), (40, (0, 0)))

    def test_forty_marks(self):
        lines = [f"mark {name} 0,0:4,0@1/2\n" for name in FORTY]
        hall = read_page(FLOOR + "".join(lines))
        self.assertEqual(len(hall), 40)
        refused(self, TooMany, [40], hall.apply, ("mark", "z", START))
        for more in ("mark z 0,0:4,0@1/2\n", "mark z\n"):
            refused(self, InvalidText, [43], read_page, FLOOR + "".join(lines) + more)
            refused(self, InvalidText, [43], read_page, FLOOR + "".join(lines) + more + "no\n")

    def test_names_that_do_not_ascend(self):
        one, two, three = MARKS
        for marks, line in (
            ([two, one], 4), ([one, one], 4), ([one, three, two], 5), ([three, two, one], 4), ([one, two, two], 5),
            (["mark b 0,0:4,0@1/2\n", "mark ab 0,0:4,0@1/2\n"], 4),
            (["mark ab 0,0:4,0@1/2\n", "mark a 0,0:4,0@1/2\n"], 4),
        ):
            refused(self, InvalidText, [line], read_page, FLOOR + "".join(marks))
            refused(self, InvalidText, [line], read_page, FLOOR + "".join(marks) + "no\n")

    def test_wrong_lines_of_marks(self):
        wrong = [
            "", " ", "mark", "mark m", "mark m ", "mark  0,0:4,0@1/2", "mark m  0,0:4,0@1/2", " mark m 0,0:4,0@1/2",
            "mark m 0,0:4,0@1/2 ", "mark m 0,0:4,0@1/2 n", "Mark m 0,0:4,0@1/2", "marks m 0,0:4,0@1/2", "m 0,0:4,0@1/2",
            "mark M 0,0:4,0@1/2", "mark m1 0,0:4,0@1/2", "mark mmmmmmmmm 0,0:4,0@1/2", "mark 0,0:4,0@1/2 m",
            "mark m 0,0:4,0", "mark m 0,0:4,0@2/4", "mark m 0,0:4,0@0", "mark m 0,0:4,0@1", "mark m 0,0:4,0@3/2",
            "mark m 4,0:0,0@1/2", "mark m 00,0:4,0@1/2", "mark m +0,0:4,0@1/2", "mark m -0,0:4,0@1/2",
            # No places of this floor.
            "mark m 0,0:8,0@1/2", "mark m 0,0:4,4@1/2", "mark m 0,0:2,0@1/2",
            # Lines of tiles and walls, which belong above.
            "wall 4,0:4,4", "tile c 8,0 12,0 12,4 8,4 | 1,1 1,2",
        ]
        for line in wrong:
            refused(self, InvalidText, [3], read_page, FLOOR + line + "\n")
            refused(self, InvalidText, [3], read_page, FLOOR + line + "\n" + "".join(MARKS))
            before = "mark a 0,0:4,0@1/2\n"
            refused(self, InvalidText, [4], read_page, FLOOR + before + line + "\n" + "no\n")

    def test_wrong_lines_of_floors(self):
        lines = FLOOR.split("\n")
        one, two, wall = [line + "\n" for line in lines[:3]]
        for text, line in (
            (two + two, 1), (one + wall, 1), ("no\n", 0), (one + "no\n" + two, 1), (one + two + wall + wall, 3),
            ("mark m 0,0:4,0@1/2\n" + FLOOR, 0), (one + MARKS[0] + two, 2), (one + two + MARKS[0] + wall, 3),
            (one + MARKS[1] + two, 1), ("\n", 0), (FLOOR + "\n", 3), ("wall 4,0:4,4\n", 0),
        ):
            refused(self, InvalidText, [line], read_page, text)

    def test_a_last_line_without_its_line_feed_is_looked_at_first(self):
        for text, line in (
            (FLOOR[:-1], 2), (FLOOR + MARKS[0][:-1], 3), ("no\n" + FLOOR + "mark", 4),
            (FLOOR + MARKS[1] + MARKS[0] + "x", 5), ("tile", 0), (FLOOR + " ", 3),
        ):
            refused(self, InvalidText, [line], read_page, text)

    def test_any_values(self):
        for value in ANY + [Hall(pair_floor()), [FLOOR], (FLOOR,), {1: 2}]:
            refused(self, InvalidText, [0], read_page, value)

    def test_the_sides_of_a_floor_above(self):
        """A page may mark each side, also a wall."""
        for side in (LEFT, LOW, MIDDLE, UPPER):
            hall = hall_with(pair_floor(walls=[MIDDLE]), m=(side, HALF))
            self.assertEqual(read_page(write_page(hall)), hall)


if __name__ == "__main__":
    unittest.main()
