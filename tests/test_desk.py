import unittest
from random import Random

from kit import (
    HALF, HELD_LOOP, LOW, MIDDLE, UPPER, held_floor, pair_floor, random_floor, random_place, shrinking_floor, shrunk,
)

from gustfloor.deciding import decide_rolling
from gustfloor.desk import Desk
from gustfloor.floors import Floor
from gustfloor.hall import Hall
from gustfloor.ratios import Ratio
from gustfloor.reaching import can_reach, reached
from gustfloor.spans import Spread
from gustfloor.texts import side_text
from gustfloor.ways import fewest

START, NEAR, FAR = (LOW, HALF), (UPPER, Ratio(1, 4)), (UPPER, Ratio(3, 4))
BAD_SIDES = [
    "", "x", "0,0", "4,0:0,0", "0,0:4,0@1/2", "0,0:04,0", "0,0:+4,0", "0,0:-0,4", "0,0:4,0:", "0,0:0,0",
    "0,0:1000001,0", "0,0:4,0\n", "\n0,0:4,0", "0,0:4", "((0,0),(4,0))",
]
BAD_PLACES = [
    "", "x", "0,0:4,0", "0,0:4,0@", "0,0:4,0@0", "0,0:4,0@1", "0,0:4,0@3/2", "0,0:4,0@-1/2", "0,0:4,0@2/4",
    "4,0:0,0@1/2", "0,0:4,0@1/2\n", "0,0:4,0@01/2", "@1/2", "0,0:4,0@1/2@1/2", "0,0:4,0@0.5",
]


def desk_with_marks(floor=None):
    """A desk about a hall with three marks; its log is empty."""
    hall = Hall(floor or pair_floor())
    hall.apply(("mark", "m", START), ("mark", "n", NEAR), ("mark", "o", FAR))
    return Desk(hall)


class DeskTests(unittest.TestCase):
    def answers(self, rows, desk=None):
        """Checks the answers to lines, one after another."""
        desk = desk_with_marks() if desk is None else desk
        for line, answer in rows:
            self.assertEqual(desk.say(line), answer, line)
        return desk

    def test_interface(self):
        self.assertEqual(Desk.__module__, "gustfloor.desk")
        for name in ("__call__", "__init__", "__len__", "__repr__", "hall", "log", "say"):
            self.assertIn(name, vars(Desk))

    def test_this_very_hall(self):
        hall = Hall(pair_floor())
        desk = Desk(hall=hall)
        self.assertIs(desk.hall(), hall)
        self.assertEqual(desk.say("mark m 0,0:4,0@1/2"), "done")
        self.assertEqual(hall.marks(), [("m", START)])
        hall.apply(("wall", MIDDLE))
        self.assertEqual(desk.say("kind 4,0:4,4"), "wall")
        self.assertEqual((desk.say("undo"), hall.floor), ("done", pair_floor()))

    def test_log(self):
        desk = desk_with_marks()
        self.assertEqual((desk.log(), len(desk), repr(desk)), ([], 0, "Desk(0 lines)"))
        lines = ["tiles", "", "reach m z", "nonsense", "undo", "tiles\n"]
        answers = [desk.say(lines[0]), desk(lines[1]), desk(line=lines[2]), desk.say(line=lines[3])]
        answers += [desk(lines[4]), desk(lines[5])]
        self.assertEqual(answers, ["a b", "unknown", "error UnknownMark", "unknown", "done", "unknown"])
        self.assertEqual(desk.log(), list(zip(lines, answers)))
        self.assertEqual((len(desk), repr(desk)), (6, "Desk(6 lines)"))
        desk.log().clear()
        self.assertEqual(len(desk.log()), 6)
        self.assertTrue(all(row.__class__ is tuple for row in desk.log()))

    def test_tiles(self):
        self.answers([("tiles", "a b")])
        self.answers([("tiles", "se ne nw sw")], Desk(Hall(held_floor())))

    def test_kind(self):
        self.answers([
            ("kind 0,0:4,0", "spring"), ("kind 4,0:4,4", "pass"), ("kind 0,4:4,4", "rest"), ("wall 4,0:4,4", "done"),
            ("kind 4,0:4,4", "wall"), ("kind 0,0:4,4", "error UnknownSide"), ("kind 0,0:8,0", "error UnknownSide"),
            ("kind -1000000,0:1000000,0", "error UnknownSide"),
        ])
        self.answers([(f"kind {word}", "unknown") for word in BAD_SIDES])

    def test_reach(self):
        desk = self.answers([
            ("reach m n", "yes"), ("reach n m", "no"), ("reach m o", "no"), ("reach m m", "yes"), ("reach m n", "yes"),
            ("reach m z", "error UnknownMark"), ("reach z m", "error UnknownMark"), ("reach  m", "error UnknownMark"),
            ("reach m ", "error UnknownMark"), ("reach  ", "error UnknownMark"), ("reach m n\n", "error UnknownMark"),
            ("reach M m", "error UnknownMark"),
        ])
        # It is asked of the hall.
        self.assertEqual(desk.hall().kept_pairs(), [("m", "m"), ("m", "n"), ("m", "o"), ("n", "m")])
        self.assertEqual(desk.hall().computed, 4)
        self.assertIs(desk.hall().asked("m", "n"), True)
        self.assertEqual(desk.hall().computed, 4)

    def test_far(self):
        desk = self.answers([
            ("far m n", "2"), ("far n m", "never"), ("far m o", "never"), ("far m m", "0"),
            ("mark p 4,0:4,4@1/2", "done"), ("far m p", "1"), ("far p n", "1"), ("far p m", "never"),
            ("wall 4,0:4,4", "done"), ("far m p", "never"), ("far p p", "0"), ("far m z", "error UnknownMark"),
            ("far z m", "error UnknownMark"), ("far  ", "error UnknownMark"),
        ])
        self.assertEqual(desk.hall().computed, 0)

    def test_far_away(self):
        """More pieces than the usual greatest number."""
        hall = Hall(shrinking_floor())
        start = (HELD_LOOP[0], Ratio(9, 10))
        hall.apply(("mark", "m", start), ("mark", "n", (HELD_LOOP[0], shrunk(start[1], 412))))
        self.answers([("far m n", "412"), ("far n m", "never"), ("ever m", "rolls")], Desk(hall))

    def test_ever(self):
        self.answers([
            ("ever m", "rests"), ("ever n", "rests"), ("ever z", "error UnknownMark"), ("ever ", "error UnknownMark"),
        ])
        desk = Desk(Hall(held_floor()))
        self.answers([
            ("mark m 0,0:2,0@1/1000", "done"), ("mark n 0,2:2,2@1/2", "done"), ("ever m", "rolls"), ("ever n", "rests"),
            ("wall 0,0:0,2", "done"), ("ever m", "rests"), ("undo", "done"), ("ever m", "rolls"),
        ], desk)

    def test_spread(self):
        desk = self.answers([
            ("spread m 0,0:4,0", "[1/2, 1/2]"), ("spread m 4,0:4,4", "[1/2, 1)"), ("spread m 4,4:8,4", "(0, 1/2]"),
            ("spread m 0,4:4,4", "none"), ("spread n 0,0:4,0", "none"), ("spread n 4,4:8,4", "[1/4, 1/4]"),
            ("wall 4,0:4,4", "done"), ("spread m 4,0:4,4", "none"), ("spread m 0,0:4,0", "[1/2, 1/2]"),
            ("spread z 0,0:4,0", "error UnknownMark"), ("spread z 0,0:8,0", "error UnknownMark"),
            ("spread m 0,0:8,0", "error UnknownSide"), ("spread  0,0:4,0", "error UnknownMark"),
        ])
        self.assertEqual(desk.hall().computed, 0)
        self.answers([(f"spread {mark} {word}", "unknown") for word in BAD_SIDES for mark in ("m", "z", "")])

    def test_mark_and_clear(self):
        desk = self.answers([
            ("mark p 4,0:4,4@1/2", "done"), ("reach m p", "yes"), ("mark p 4,0:4,4@1/4", "done"), ("reach m p", "no"),
            ("clear p", "done"), ("clear p", "error UnknownMark"), ("clear ", "error UnknownMark"),
            ("clear \n", "error UnknownMark"), ("mark P 4,0:4,4@1/2", "error InvalidName"),
            ("mark  4,0:4,4@1/2", "error InvalidName"), ("mark p\n 4,0:4,4@1/2", "error InvalidName"),
            ("mark p1 0,0:8,0@1/2", "error InvalidName"), ("mark ppppppppp 4,0:4,4@1/2", "error InvalidName"),
            ("mark p 0,0:8,0@1/2", "error InvalidPlace"), ("mark p 0,0:4,4@1/2", "error InvalidPlace"),
        ])
        self.assertEqual(len(desk.hall()), 3)
        self.answers([(f"mark {name} {word}", "unknown") for word in BAD_PLACES for name in ("p", "P", "")])
        desk.hall().limit = 3
        self.answers([
            ("mark p 4,0:4,4@1/2", "error TooMany"), ("mark p 0,0:8,0@1/2", "error InvalidPlace"),
            ("mark o 4,0:4,4@1/2", "done"), ("mark P 4,0:4,4@1/2", "error InvalidName"),
        ], desk)

    def test_wall_and_open(self):
        desk = self.answers([
            ("open 4,0:4,4", "error InvalidWall"), ("wall 4,0:4,4", "done"), ("reach m n", "no"),
            ("wall 4,0:4,4", "error InvalidWall"), ("open 4,0:4,4", "done"), ("reach m n", "yes"),
            ("wall 0,0:4,0", "error InvalidWall"), ("wall 0,0:8,0", "error InvalidWall"),
            ("open 0,0:4,0", "error InvalidWall"), ("open 0,0:8,0", "error InvalidWall"),
        ])
        self.assertEqual(desk.hall().history(), (3, 0))
        self.answers([(f"{word} {side}", "unknown") for word in ("wall", "open") for side in BAD_SIDES])

    def test_undo_and_redo(self):
        desk = self.answers([
            ("redo", "error NothingLeft"), ("wall 4,0:4,4", "done"), ("undo", "done"), ("kind 4,0:4,4", "pass"),
            ("redo", "done"), ("kind 4,0:4,4", "wall"), ("redo", "error NothingLeft"), ("undo", "done"),
            ("undo", "done"), ("undo", "error NothingLeft"), ("reach m n", "error UnknownMark"), ("redo", "done"),
            ("reach m n", "yes"),
        ])
        self.assertEqual(desk.hall().history(), (1, 1))

    def test_unknown_lines(self):
        wrong = [
            "", " ", "\n", "tiles ", " tiles", "tiles\n", "tiles a", "Tiles", "tile", "kind", "kind 0,0:4,0 ",
            "kind  0,0:4,0", " kind 0,0:4,0", "kind 0,0:4,0 4,0:8,0", "kind\n0,0:4,0", "reach", "reach m",
            "reach m n ", "reach m n o", "reach  m n", " reach m n", "reach\nm n", "far", "far m", "far m n ",
            "far m n o", "far  m n", "ever", "ever m ", "ever m n", " ever m", "ever  m", "spread", "spread m",
            "spread 0,0:4,0", "spread m 0,0:4,0 ", "spread m  0,0:4,0", "spread 0,0:4,0 m", "mark", "mark p",
            "mark p  0,0:4,0@1/2", "mark p 0,0:4,0@1/2 ", "mark p 0,0:4,0", "mark 0,0:4,0@1/2 p", "mark p 0,0:4,0 1/2",
            "clear", "clear m ", "clear m n", "clear  m", "wall", "wall ", "wall 4,0:4,4 ", "wall  4,0:4,4", "open",
            "open 4,0:4,4 x", "undo ", " undo", "undo\n", "undo 2", "redo ", "redo\n", "wind a 1,1 1,2",
            "part a 0,0 4,4 c d", "join a b c", "marks", "limit 3", "help", "tiles\t",
        ]
        desk = self.answers([(line, "unknown") for line in wrong])
        self.assertEqual((len(desk), len(desk.hall()), desk.hall().history()), (len(wrong), 3, (1, 0)))

    def test_errors_change_nothing(self):
        desk = desk_with_marks()
        before = desk.hall().twin()
        for line in (
            "redo", "reach m z", "clear z", "mark P 0,0:4,0@1/2", "mark p 0,0:8,0@1/2", "wall 0,0:4,0", "open 4,0:4,4",
            "far z m", "kind 0,0:8,0", "spread z 0,0:4,0", "ever z",
        ):
            self.assertTrue(desk(line).startswith("error "), line)
        self.assertEqual(desk.hall(), before)
        self.assertEqual(desk.hall().history(), before.history())

    def test_on_floors_by_chance(self):
        """The desk tells what the other modules tell."""
        for seed in range(10):
            chance = Random(seed)
            hall = Hall(random_floor(chance, 2, 2, most=4, steady=99))
            places = {name: random_place(chance, hall.floor) for name in "mno"}
            hall.apply(*[("mark", name, place) for name, place in places.items()])
            desk = Desk(hall)
            for one, start in places.items():
                spreads = dict(reached(hall.floor, start))
                rolls = bool(decide_rolling(hall.floor, start))
                self.answers([(f"ever {one}", "rolls" if rolls else "rests")], desk)
                for side in hall.floor.sides():
                    told = str(spreads.get(side, Spread()))
                    self.answers([(f"spread {one} {side_text(side)}", told)], desk)
                for other, goal in places.items():
                    many = fewest(hall.floor, start, goal)
                    reach = "yes" if can_reach(hall.floor, start, goal)[0] else "no"
                    far = "never" if many is None else str(many)
                    self.answers([(f"reach {one} {other}", reach), (f"far {one} {other}", far)], desk)

    def test_one_tile(self):
        desk = Desk(Hall(Floor(pair_floor().tiles()[:1])))
        self.answers([("tiles", "a"), ("wall 4,0:4,4", "error InvalidWall"), ("kind 4,0:4,4", "rest")], desk)


if __name__ == "__main__":
    unittest.main()
