"""The examples at the end of the document."""

import unittest

from kit import held_floor, refused

from gustfloor.deciding import decide, decide_rolling
from gustfloor.desk import Desk
from gustfloor.errors import SplitSide
from gustfloor.floors import Floor
from gustfloor.hall import Hall
from gustfloor.ratios import Ratio
from gustfloor.reaching import reached
from gustfloor.rounds import Round
from gustfloor.spans import Span, Spread
from gustfloor.texts import floor_text
from gustfloor.tiles import Tile


def two_boxes():
    a = Tile.box("a", (0, 0), (4, 4), ((1, 1), (1, 2)))
    b = Tile.box("b", (4, 0), (8, 4), ((1, 1), (1, 2)))
    return a, Floor([a, b])


class ExampleTests(unittest.TestCase):
    def test_ratios(self):
        shown = [str(Ratio(2, -4) + Ratio(1, 3)), Ratio(6, 4).top, Ratio(6, 4).bottom]
        self.assertEqual(shown, ["-1/6", 3, 2])

    def test_spans(self):
        one = Span(Ratio(0), Ratio(1, 2), has_high=False)
        two = Span(Ratio(1, 2), Ratio(2))
        shown = [
            str(Spread([two, one])),
            str(Spread([one]) | Spread([Span.only(Ratio(3))])),
            str(Span.between(Ratio(1, 3), Ratio(1, 2)).simplest()),
        ]
        self.assertEqual(shown, ["[0, 2]", "[0, 1/2) [3, 3]", "2/5"])

    def test_two_boxes(self):
        a, floor = two_boxes()
        shown = [
            a.lets_in(((0, 0), (4, 0))),
            a.lets_in(((4, 0), (4, 4))),
            floor.kind(((0, 0), (4, 0))),
            floor.kind(((4, 0), (4, 4))),
            floor.kind(((0, 4), (4, 4))),
        ]
        self.assertEqual(shown, [True, False, "spring", "pass", "rest"])

    def test_reached(self):
        _, floor = two_boxes()
        rows = reached(floor, (((0, 0), (4, 0)), Ratio(1, 2)))
        shown = [len(rows), rows[1][0], str(rows[1][1]), rows[2][0], str(rows[2][1])]
        self.assertEqual(shown, [3, ((4, 0), (4, 4)), "[1/2, 1)", ((4, 4), (8, 4)), "(0, 1/2]"])

    def test_decide(self):
        _, floor = two_boxes()
        start = (((0, 0), (4, 0)), Ratio(1, 2))
        near, far = (((4, 4), (8, 4)), Ratio(1, 4)), (((4, 4), (8, 4)), Ratio(3, 4))
        shown = [decide(floor, start, near).told(), decide(floor, start, far).told()]
        self.assertEqual([*shown, decide(floor, start, far).holds()], ["way 2", "barred 3", True])

    def test_decide_rolling(self):
        paper = decide_rolling(held_floor(), (((0, 0), (2, 0)), Ratio(1, 2)))
        self.assertEqual([paper.told(), paper.holds(), paper.places()[0] == paper.start], ["rolls 4", True, True])

    def test_floor_text(self):
        _, floor = two_boxes()
        text = "tile a 0,0 4,0 4,4 0,4 | 1,1 1,2\ntile b 4,0 8,0 8,4 4,4 | 1,1 1,2\n"
        self.assertEqual(floor_text(floor), text)

    def test_desk(self):
        _, floor = two_boxes()
        desk = Desk(Hall(floor))
        lines = [
            desk("mark m 0,0:4,0@1/2"), desk("mark n 4,4:8,4@1/4"), desk("reach m n"), desk("far m n"),
            desk("wall 4,0:4,4"), desk("reach m n"),
        ]
        self.assertEqual(lines, ["done", "done", "yes", "2", "done", "no"])

    def test_round(self):
        loop = (((0, 0), (2, 0)), ((0, 0), (0, 2)), ((-2, 0), (0, 0)), ((0, -2), (0, 0)))
        held = Round(held_floor(), loop)
        shown = [str(held.room), str(held.image(Span.only(Ratio(1, 32)))), str(held.kept)]
        self.assertEqual(shown, ["(0, 1)", "[1/32, 1/2]", "(0, 1)"])

    def test_split_side(self):
        corners = [(0, 0), (4, 0), (4, 4), (0, 4)]
        refused(self, SplitSide, [((0, 0), (4, 0))], Tile, "a", corners, ((1, 0), (1, 1)))


if __name__ == "__main__":
    unittest.main()
