import unittest
from fractions import Fraction
from random import Random

from kit import (
    LEFT, LISTS, LOW, LOWER, MIDDLE, NEAR_SIDES, RIGHT, STRANGE, TILE, TOP, UPPER, pair_floor, random_floor, refused,
    span,
)
from model import Model, ends, ratio

from gustfloor import steps
from gustfloor.errors import UnknownSide
from gustfloor.floors import Floor
from gustfloor.ratios import Ratio
from gustfloor.spans import Span
from gustfloor.steps import back_step, next_sides, step
from gustfloor.tiles import Tile

SIDES = [LEFT, LOW, TOP, MIDDLE, LOWER, UPPER, RIGHT]
NO_SIDES = STRANGE + LISTS + NEAR_SIDES + [((0, 0), (4, 4)), ((0, 0), (8, 0))]


def told(result):
    return None if result is None else str(result)


class NextTests(unittest.TestCase):
    def test_interface(self):
        for call in (next_sides, step, back_step):
            self.assertEqual(call.__module__, "gustfloor.steps")
            self.assertIs(getattr(steps, call.__name__), call)

    def test_ascending(self):
        floor = pair_floor()
        # A ball from the left is blown to the top before it comes to the right.
        expected = [[TOP], [TOP, MIDDLE], [], [UPPER], [UPPER, RIGHT], [], []]
        self.assertEqual([next_sides(floor, side) for side in SIDES], expected)
        for side in SIDES:
            self.assertIs(next_sides(floor=floor, side=side).__class__, list)

    def test_walls(self):
        floor = pair_floor(walls=[MIDDLE])
        expected = [[TOP], [TOP], [], [], [UPPER, RIGHT], [], []]
        self.assertEqual([next_sides(floor, side) for side in SIDES], expected)

    def test_both_tiles_of_a_spring(self):
        west = ((-1, 1), (-2, 1))
        floor = Floor([Tile.box("a", (0, 0), (4, 4), west), Tile.box("b", (4, 0), (8, 4), ((1, 1), (1, 2)))])
        self.assertEqual(next_sides(floor, MIDDLE), [LEFT, TOP, UPPER])

    def test_a_side_that_lets_out_may_be_out_of_the_winds(self):
        floor = Floor([Tile("a", [(0, 0), (4, 0), (4, 3), (4, 4), (0, 4)], ((1, 1), (1, 2)))])
        self.assertEqual(next_sides(floor, LOW), [TOP, ((4, 0), (4, 3)), ((4, 3), (4, 4))])
        self.assertEqual(next_sides(floor, LEFT), [TOP])
        floor = Floor([Tile("a", [(0, 0), (4, 0), (4, 3), (4, 4), (0, 4)], ((8, 1), (8, 7)))])
        self.assertEqual(next_sides(floor, LOW), [((4, 0), (4, 3)), ((4, 3), (4, 4))])
        self.assertEqual(next_sides(floor, LEFT), [TOP, ((4, 0), (4, 3)), ((4, 3), (4, 4))])

    def test_unknown_sides(self):
        floor = pair_floor()
        for value in NO_SIDES:
            refused(self, UnknownSide, [value], next_sides, floor, value)

    def test_returned_lists_are_new(self):
        floor = pair_floor()
        next_sides(floor, LOW).clear()
        self.assertEqual(next_sides(floor, LOW), [TOP, MIDDLE])


class StepTests(unittest.TestCase):
    def setUp(self):
        self.floor = pair_floor()

    def step(self, side, other, text, expected):
        self.assertEqual(told(step(self.floor, side, other, span(text))), expected)

    def back(self, side, other, text, expected):
        self.assertEqual(told(back_step(self.floor, side, other, span(text))), expected)

    def test_parameters_by_name(self):
        half = Span.only(Ratio(1, 2))
        self.assertEqual(str(step(span=half, other=MIDDLE, side=LOW, floor=self.floor)), "[1/2, 1)")
        self.assertEqual(str(back_step(span=half, other=MIDDLE, side=LOW, floor=self.floor)), "[1/2, 3/4]")

    def test_falling_steps(self):
        # From x to all from 1 - x to 2 - 2x.
        rows = [
            ("[1/2, 1/2]", "[1/2, 1)"), ("[3/4, 3/4]", "[1/4, 1/2]"), ("[2/3, 3/4]", "[1/4, 2/3]"),
            ("(2/3, 3/4]", "[1/4, 2/3)"), ("[2/3, 3/4)", "(1/4, 2/3]"), ("(2/3, 3/4)", "(1/4, 2/3)"),
            ("[1/4, 1/4]", "[3/4, 1)"), ("(0, 1)", "(0, 1)"), ("(9/10, 1)", "(0, 1/5)"), ("[9/10, 1)", "(0, 1/5]"),
        ]
        for text, expected in rows:
            self.step(LOW, MIDDLE, text, expected)

    def test_rising_steps(self):
        # From x to all from x + 1/2 to x + 1.
        rows = [
            ("[1/4, 1/4]", "[3/4, 1)"), ("[1/8, 1/4]", "[5/8, 1)"), ("(1/8, 1/4]", "(5/8, 1)"), ("[1/2, 1/2]", None),
            ("[1/2, 1)", None), ("(0, 1/8)", "(1/2, 1)"), ("[3/4, 3/4]", None), ("[1/4, 1)", "[3/4, 1)"),
        ]
        for text, expected in rows:
            self.step(LOW, TOP, text, expected)

    def test_steps_that_are_not_cut(self):
        # From x to all from x/4 to x/2: a ball comes down to the low side of a box.
        floor = Floor([Tile.box("a", (0, 0), (4, 4), ((1, -4), (1, -2)))])
        rows = [
            ("[1/2, 1/2]", "[1/8, 1/4]"), ("(1/4, 1/2]", "(1/16, 1/4]"), ("[1/4, 1/2)", "[1/16, 1/4)"),
            ("(0, 1)", "(0, 1/2)"),
        ]
        for text, expected in rows:
            self.assertEqual(told(step(floor, LEFT, LOW, span(text))), expected)

    def test_only_ratios_between_0_and_1_count(self):
        rows = [
            ("[-1, 3/4]", "[1/4, 1)"), ("[3/4, 5]", "(0, 1/2]"), ("[0, 0]", None), ("[1, 1]", None), ("[-2, 0]", None),
            ("[1, 3]", None), ("[-5, -3]", None), ("(1, 2)", None), ("[2, 2]", None), ("[-9, 9]", "(0, 1)"),
            ("[0, 1]", "(0, 1)"), ("(-1, 0]", None),
        ]
        for text, expected in rows:
            self.step(LOW, MIDDLE, text, expected)
        self.step(LOW, TOP, "[0, 1/8]", "(1/2, 1)")
        self.step(LOW, TOP, "[-1/4, -1/8]", None)

    def test_no_step(self):
        for text in ("[1/2, 1/2]", "(0, 1)"):
            pairs = [
                (LOW, LOW), (MIDDLE, MIDDLE), (LOW, LEFT), (MIDDLE, LOW), (TOP, LOW), (TOP, MIDDLE), (LOW, RIGHT),
                (LOW, UPPER), (LEFT, LOWER), (LOWER, MIDDLE), (UPPER, RIGHT), (MIDDLE, TOP),
            ]
            for side, other in pairs:
                self.step(side, other, text, None)
                self.back(side, other, text, None)

    def test_walls(self):
        floor = pair_floor(walls=[MIDDLE])
        whole = span("(0, 1)")
        for side, other in ((LOW, MIDDLE), (LEFT, MIDDLE), (MIDDLE, UPPER), (MIDDLE, RIGHT), (MIDDLE, MIDDLE)):
            self.assertIsNone(step(floor, side, other, whole))
            self.assertIsNone(back_step(floor, side, other, whole))
        self.assertEqual(str(step(floor, LOW, TOP, whole)), "(1/2, 1)")
        self.assertEqual(str(back_step(floor, LOW, TOP, whole)), "(0, 1/2)")

    def test_back_steps_that_fall(self):
        rows = [
            ("[1/2, 1/2]", "[1/2, 3/4]"), ("[1/4, 1/2]", "[1/2, 7/8]"), ("(1/4, 1/2]", "[1/2, 7/8)"),
            ("[1/4, 1/2)", "(1/2, 7/8]"), ("(1/4, 1/2)", "(1/2, 7/8)"), ("(0, 1)", "(0, 1)"), ("(0, 1/4]", "[3/4, 1)"),
            ("[-3, 1/4]", "[3/4, 1)"), ("[3/4, 3]", "(0, 5/8]"), ("(3/4, 3]", "(0, 5/8)"),
            ("[0, 0]", None), ("[1, 1]", None), ("[-3, 0]", None), ("[1, 2]", None), ("(2, 3)", None),
        ]
        for text, expected in rows:
            self.back(LOW, MIDDLE, text, expected)

    def test_back_steps_that_rise(self):
        rows = [
            ("[3/4, 3/4]", "(0, 1/4]"), ("[5/8, 3/4)", "(0, 1/4)"), ("[1/2, 1/2]", None), ("(1/2, 5/8]", "(0, 1/8]"),
            ("(0, 1/2]", None), ("[1/4, 1/4]", None), ("[0, 2]", "(0, 1/2)"), ("[15/16, 1)", "(0, 1/2)"),
        ]
        for text, expected in rows:
            self.back(LOW, TOP, text, expected)

    def test_unknown_sides(self):
        whole = span("(0, 1)")
        for call in (step, back_step):
            for value in NO_SIDES:
                refused(self, UnknownSide, [value], call, self.floor, value, LOW, whole)
                refused(self, UnknownSide, [value], call, self.floor, LOW, value, whole)
                refused(self, UnknownSide, [value], call, self.floor, value, None, whole)
                refused(self, UnknownSide, [value], call, pair_floor(walls=[MIDDLE]), MIDDLE, value, whole)
            refused(self, UnknownSide, [None], call, self.floor, None, TILE, whole)


class ModelTests(unittest.TestCase):
    """Floors by chance, compared with pieces that are checked as point 8 says."""

    def floors(self, seed, many):
        chance = Random(seed)
        for _ in range(many):
            floor = random_floor(chance, chance.randint(1, 2), chance.randint(1, 2), split=chance.random() < 0.4)
            yield chance, floor, Model(floor)

    def test_steps_of_single_ratios(self):
        for chance, floor, model in self.floors(1, 12):
            for side in floor.sides():
                at = Fraction(chance.randint(1, 11), 12)
                for other in floor.sides():
                    there = step(floor, side, other, Span.only(ratio(at)))
                    for to in (Fraction(k, 24) for k in range(25)):
                        self.assertEqual(there is not None and ratio(to) in there, model.is_piece(side, at, other, to))

    def test_next_sides(self):
        for _, floor, model in self.floors(2, 15):
            for side in floor.sides():
                ahead = [other for other in floor.sides() if model.step(side, other, (0, False, 1, False))]
                self.assertEqual(next_sides(floor, side), ahead)

    def test_steps_of_spans(self):
        for chance, floor, model in self.floors(3, 20):
            for side in floor.sides():
                for other in next_sides(floor, side):
                    low, high = sorted(chance.randint(-2, 14) for _ in range(2))
                    given = Span(Ratio(low, 12), Ratio(high + 1, 12), has_low=chance.random() < 0.5, has_high=False)
                    self.assertEqual(ends(step(floor, side, other, given)), model.step(side, other, ends(given)))

    def test_back_steps_belong_to_steps(self):
        for chance, floor, _ in self.floors(4, 15):
            for side in floor.sides():
                for other in floor.sides():
                    given = Span(
                        Ratio(chance.randint(-2, 6), 12), Ratio(chance.randint(7, 14), 12),
                        has_low=chance.random() < 0.5, has_high=chance.random() < 0.5,
                    )
                    back = back_step(floor, side, other, given)
                    tried = [Ratio(k, 24) for k in range(25)] + ([] if back is None else [back.low, back.high])
                    for at in tried:
                        there = step(floor, side, other, Span.only(at))
                        self.assertEqual(back is not None and at in back, self.meets(there, given))

    def meets(self, one, other):
        if one is None:
            return False
        low = one if other.low.is_below(one.low) else other
        high = one if one.high.is_below(other.high) else other
        if low.low == high.high:
            return low.low in one and low.low in other
        return low.low.is_below(high.high)


if __name__ == "__main__":
    unittest.main()
