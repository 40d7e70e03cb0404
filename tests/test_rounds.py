import unittest
from fractions import Fraction
from itertools import islice
from random import Random

from kit import (
    HELD_LOOP, HOLE_LOOP, LISTS, NEAR_SIDES, STRANGE, held_floor, hole_floor, pair_floor, random_floor, refused,
    round_floor, span, turned_winds,
)
from model import Model, ends, fraction, ratio, span_of

from gustfloor import rounds as module
from gustfloor.changes import turned, walled
from gustfloor.errors import InvalidRound, UnknownSide
from gustfloor.floors import Floor
from gustfloor.ratios import Ratio
from gustfloor.rounds import Round, rounds
from gustfloor.spans import Span, Spread
from gustfloor.tiles import Tile

QUARTER = ((1, 4), (1, 2))
HALF = ((1, 2), (1, 1))
ONE = ((1, 1), (2, 1))
TWO = ((2, 1), (4, 1))
# The floors round a hole: ways, corners, the common part of the room and J, and the kept span.
KEPT = [
    # No end is replaced.
    ([QUARTER] * 4, [QUARTER, HALF, HALF, QUARTER], "(9/16, 249/256)", "(9/16, 249/256)"),
    # The low end is replaced, the high one, both.
    (
        [((3, 8), (1, 1)), ((1, 8), (1, 1)), ((1, 4), (3, 8)), ((-1, 1), (-3, 8))],
        [((1, 1), (9, 8)), ((9, 8), (2, 1)), ((1, 1), (9, 8)), ((1, 1), (3, 2))],
        "(7/24, 1)", "[5/8, 1)",
    ),
    (
        [((-1, 1), (-1, 2)), ((-1, 1), (-1, 2)), ((-1, 1), (-1, 2)), ((1, 8), (1, 4))],
        [((5, 4), (3, 2)), ((1, 1), (3, 2)), ((1, 1), (2, 1)), ((4, 5), (2, 1))],
        "(0, 53/72)", "(0, 23/32]",
    ),
    (
        [((-1, 1), (-3, 8)), ((-1, 2), (-1, 4)), ((-3, 8), (-1, 4)), ((1, 4), (3, 8))],
        [((3, 2), (2, 1)), ((9, 8), (5, 4)), ((3, 2), (2, 1)), ((4, 5), (1, 1))],
        "(13/54, 17/20)", "[23/82, 107/128]",
    ),
    # An end that rests stays as it is.
    (
        [((1, 4), (1, 1)), ((1, 8), (1, 2)), ((1, 4), (3, 8)), ((1, 8), (1, 1))],
        [((1, 2), (3, 2)), ((1, 1), (5, 4)), ((1, 1), (9, 8)), ((3, 2), (2, 1))],
        "(1/16, 13/16)", "(1/16, 13/16)",
    ),
    # The low end cannot be replaced: the slope of B is 1, or less.
    (
        [((1, 2), (1, 1)), ((1, 4), (3, 8)), ((3, 8), (1, 2)), ((-1, 1), (-1, 2))],
        [((4, 5), (2, 1)), ((5, 4), (2, 1)), ((1, 1), (3, 2)), ((1, 1), (2, 1))],
        "(19/64, 1)", None,
    ),
    (
        [((1, 2), (1, 1)), ((1, 4), (1, 2)), ((1, 4), (1, 1)), ((-1, 2), (-1, 8))],
        [((4, 5), (9, 8)), ((4, 5), (1, 1)), ((1, 1), (5, 4)), ((3, 2), (2, 1))],
        "(1/8, 1)", None,
    ),
    # The high end cannot be replaced: the slope of A is 1, or less.
    (
        [((-2, 1), (-3, 2)), ((1, 4), (1, 1)), ((1, 2), (1, 1)), ((-3, 2), (-1, 1))],
        [((1, 4), (1, 2)), ((1, 4), (1, 1)), ((1, 4), (2, 3)), ((2, 1), (3, 1))],
        "(0, 5/8)", None,
    ),
    (
        [((1, 4), (1, 2)), ((-2, 1), (-3, 2)), ((1, 4), (1, 1)), ((1, 4), (2, 1))],
        [((2, 3), (1, 1)), ((3, 4), (2, 1)), ((1, 3), (2, 3)), ((1, 4), (1, 3))],
        "(2/3, 3/4)", None,
    ),
    # What replaces the end lies beyond the other one.
    (
        [((3, 8), (1, 2)), ((1, 4), (3, 8)), ((1, 4), (1, 1)), ((-1, 2), (-1, 8))],
        [((1, 1), (9, 8)), ((1, 1), (9, 8)), ((1, 1), (5, 4)), ((9, 8), (2, 1))],
        "(7/32, 1)", None,
    ),
    (
        [((-2, 1), (-3, 2)), ((-2, 1), (-3, 2)), ((1, 4), (1, 1)), ((1, 4), (1, 1))],
        [((1, 2), (2, 3)), ((1, 2), (2, 1)), ((1, 4), (2, 1)), ((1, 3), (1, 1))],
        "(0, 1/16)", None,
    ),
    # The room and J have nothing in common.
    (
        [((1, 8), (1, 4)), ((3, 8), (1, 1)), ((1, 4), (1, 2)), ((1, 8), (1, 1))],
        [((3, 2), (2, 1)), ((1, 1), (5, 4)), ((5, 4), (3, 2)), ((3, 2), (2, 1))],
        None, None,
    ),
]


def told(result):
    return None if result is None else str(result)


def hole_lines(ways, corners):
    """The slopes and offsets of A and B of the round about the hole, of the ratio from the start of its first side."""
    lines = []
    for k in (1, 0):
        slope, offset = Fraction(1), Fraction(0)
        for way, corner in zip(ways, corners):
            factor = Fraction(*corner[k])
            slope, offset = slope * factor, (offset + Fraction(*way[k])) * factor
        # These are of the distance from the hole, which is 4 * (1 - ratio).
        lines.append((slope, 1 - slope - offset / 4))
    return lines


def lines_round(floor, held):
    """A and B of a round, as functions: they go round along all first winds, or along all second ones."""
    model = Model(floor)

    def line(which):
        values = []
        for at in (Fraction(0), Fraction(1)):
            for side, other in zip(held.loop, held.loop[1:] + held.loop[:1]):
                at = model.met_along(model.tile(side, other).winds[which], side, at, other)
            values.append(at)
        return lambda given: values[0] + given * (values[1] - values[0])

    inside = fraction(held.room.simplest())
    return sorted([line(0), line(1)], key=lambda told: told(inside))


class RoundsTests(unittest.TestCase):
    def test_interface(self):
        self.assertEqual((rounds.__module__, Round.__module__), ("gustfloor.rounds", "gustfloor.rounds"))
        self.assertIs(module.Round, Round)
        words = [
            "loop", "room", "kept", "image", "sweep", "leads_into_itself", "begun_at", "__len__", "__repr__",
        ]
        for word in words:
            self.assertIn(word, Round.__dict__)

    def test_each_once_for_each_side_at_which_it_begins(self):
        turns = [HELD_LOOP[at:] + HELD_LOOP[:at] for at in range(4)]
        self.assertEqual(list(rounds(held_floor())), sorted(turns))
        self.assertEqual(list(rounds(floor=turned(held_floor()))), sorted(
            [loop[:1] + loop[1:][::-1] for loop in turns]
        ))

    def test_a_generator(self):
        found = rounds(held_floor())
        self.assertIs(iter(found), found)
        self.assertIs(next(found).__class__, tuple)
        self.assertEqual(len(list(found)), 3)
        self.assertEqual(list(found), [])

    def test_twice_the_same(self):
        floor = random_floor(Random(5), 3, 3, steady=99)
        self.assertGreater(len(list(rounds(floor))), 8)
        self.assertEqual(list(rounds(floor)), list(rounds(floor)))
        one, other = rounds(floor), rounds(floor)
        self.assertEqual([(a, b) for a, b in zip(one, other) if a != b], [])

    def test_none(self):
        self.assertEqual(list(rounds(pair_floor())), [])
        self.assertEqual(list(rounds(Floor([Tile.box("a", (0, 0), (4, 4), ((1, 1), (1, 2)))]))), [])

    def test_none_across_a_wall(self):
        for side in HELD_LOOP:
            self.assertEqual(list(rounds(walled(held_floor(), side))), [])
        floor = random_floor(Random(5), 3, 3, steady=99)
        before = list(rounds(floor))
        for side in sorted({side for loop in before for side in loop})[:6]:
            left = [loop for loop in before if side not in loop]
            self.assertEqual(list(rounds(walled(floor, side))), left)

    def test_not_at_each_side(self):
        # A ball goes once round and a side further, but not from each side.
        found = 0
        for seed in range(40):
            floor = random_floor(Random(seed), 3, 2, most=9, split=seed % 2 == 0, steady=99)
            loops = list(rounds(floor))
            self.assertEqual(loops, sorted(loops))
            for loop in loops:
                turns = {loop[at:] + loop[:at] for at in range(len(loop))}
                found += not turns <= set(loops)
        self.assertGreater(found, 0)

    def test_all_of_floors_by_chance(self):
        many = 0
        for seed in range(30):
            chance = Random(seed)
            size = (2, 2) if seed % 5 == 0 else (chance.randint(2, 3), 3)
            floor = random_floor(chance, *size, split=seed % 5 == 0, most=chance.choice([2, 6, 20]), steady=12)
            found = list(rounds(floor))
            self.assertEqual(found, Model(floor).rounds())
            many += len(found)
        self.assertGreater(many, 200)

    def test_rounds_that_cross_a_tile_more_than_once(self):
        # Two sides between neighbours: a ball goes twice round, by the outer sides and by the inner ones.
        boxes = []
        for at, (name, a, b) in enumerate([("se", 0, -4), ("ne", 0, 0), ("nw", -4, 0), ("sw", -4, -4)]):
            x, y, c, d = a + 2, b + 2, a + 4, b + 4
            corners = [(a, b), (x, b), (c, b), (c, y), (c, d), (x, d), (a, d), (a, y)]
            boxes.append(Tile(name, corners, turned_winds(((3, 2), (2, 3)), at)))
        floor = Floor(boxes)
        found = list(rounds(floor))
        self.assertEqual(found, Model(floor).rounds())
        self.assertEqual({len(loop) for loop in found}, {4, 8})


class RefusedTests(unittest.TestCase):
    def refused(self, sides, floor=None):
        refused(self, InvalidRound, [sides], Round, held_floor() if floor is None else floor, sides)

    def test_any_value(self):
        for value in STRANGE + LISTS + NEAR_SIDES:
            self.refused(value)
            self.refused((value,))
            self.refused(HELD_LOOP[:3] + (value,))
            self.refused((value,) + HELD_LOOP[1:])

    def test_lists(self):
        self.refused(list(HELD_LOOP))
        self.refused(HELD_LOOP[:3] + (list(HELD_LOOP[3]),))

    def test_wrong_sides(self):
        self.refused(HELD_LOOP + HELD_LOOP[:1])
        self.refused(HELD_LOOP + HELD_LOOP)
        self.refused(HELD_LOOP[:1] + HELD_LOOP)
        for at in range(4):
            self.refused(HELD_LOOP[:at] + HELD_LOOP[at + 1:])
            self.refused(HELD_LOOP[at:at + 1])
            for to in range(4):
                self.refused((HELD_LOOP[at], HELD_LOOP[to]))
        self.refused(HELD_LOOP[::-1])
        self.refused(HELD_LOOP[:1] + HELD_LOOP[:0:-1])
        self.refused((HELD_LOOP[1], HELD_LOOP[0]) + HELD_LOOP[2:])
        self.refused(HELD_LOOP[:3] + (((0, -2), (2, -2)),))
        self.refused(HELD_LOOP[:3] + (((0, 0), (0, -2)),))
        self.refused(HELD_LOOP, pair_floor())

    def test_walls(self):
        for side in HELD_LOOP:
            self.refused(HELD_LOOP, walled(held_floor(), side))

    def test_loops_through_which_no_steps_lead(self):
        ways = [((1, 1), (2, 1)), ((1, 2), (1, 1)), ((1, 2), (1, 1)), ((1, 1), (2, 1))]
        corners = [((3, 2), (3, 1)), ((1, 4), (1, 2)), ((2, 1), (3, 1)), ((3, 2), (2, 1))]
        floor = hole_floor(ways, corners)
        for side, other in zip(HOLE_LOOP, HOLE_LOOP[1:] + HOLE_LOOP[:1]):
            self.assertIsNotNone(Model(floor).step(side, other, (0, False, 1, False)))
        self.refused(HOLE_LOOP, floor)
        self.assertEqual(Round(hole_floor(*KEPT[0][:2]), HOLE_LOOP).loop, HOLE_LOOP)

    def test_all_that_are_none(self):
        for seed in range(8):
            floor = random_floor(Random(seed), 2, 2, split=seed % 2 == 0, most=9, steady=99)
            found = set(rounds(floor))
            model = Model(floor)
            tried = 0
            for side in floor.sides():
                loops = [(side,)]
                for loop in loops:
                    ahead = [other for other in floor.sides() if model.tile(loop[-1], other)]
                    if side in ahead and loop not in found and tried < 60:
                        tried += 1
                        self.refused(loop, floor)
                    if len(loop) < 8 and len(loops) < 400:
                        loops += [loop + (other,) for other in ahead if other not in loop]
            for loop in sorted(found)[:20]:
                self.assertEqual(Round(floor, loop).loop, loop)


class RoundTests(unittest.TestCase):
    def setUp(self):
        self.held = Round(held_floor(), HELD_LOOP)

    def test_told(self):
        held = Round(sides=HELD_LOOP, floor=held_floor())
        self.assertIs(held.loop.__class__, tuple)
        self.assertEqual(held.loop, HELD_LOOP)
        self.assertEqual((str(held.room), str(held.kept)), ("(0, 1)", "(0, 1)"))
        self.assertEqual((len(held), repr(held)), (4, "Round(4 sides)"))
        hole = Round(hole_floor(*KEPT[0][:2]), HOLE_LOOP)
        self.assertEqual((len(hole), repr(hole)), (8, "Round(8 sides)"))

    def test_parameters_by_name(self):
        half = Span.only(Ratio(1, 2))
        self.assertEqual(str(self.held.image(span=half)), "[1/2, 1)")
        self.assertEqual(str(self.held.sweep(span=half)), "[1/2, 1)")
        self.assertIs(self.held.leads_into_itself(span=half), True)
        self.assertEqual(self.held.begun_at(side=HELD_LOOP[1]).loop, HELD_LOOP[1:] + HELD_LOOP[:1])

    def test_images_round_a_corner(self):
        rows = [
            ("[1/32, 1/32]", "[1/32, 1/2]"), ("[1/2, 1/2]", "[1/2, 1)"), ("[1/64, 1/32]", "[1/64, 1/2]"),
            ("(1/64, 1/32]", "(1/64, 1/2]"), ("[1/64, 1/32)", "[1/64, 1/2)"), ("(0, 1/64)", "(0, 1/4)"),
            ("[-3, 1/32]", "(0, 1/2]"), ("[0, 0]", None), ("[1, 1]", None), ("[-2, 0]", None), ("[1, 4]", None),
            ("[3/4, 9]", "[3/4, 1)"), ("(1, 2)", None), ("[-2, -1]", None),
        ]
        for text, expected in rows:
            self.assertEqual(told(self.held.image(span(text))), expected)

    def test_images_outside_of_the_room(self):
        # From x to all from 4x to 64x, if 4x is less than 1.
        wide = Round(round_floor(ONE, TWO, TWO, ONE), HELD_LOOP)
        self.assertEqual(str(wide.room), "(0, 1/4)")
        rows = [
            ("[1/256, 1/256]", "[1/64, 1/4]"), ("[1/8, 1/8]", "[1/2, 1)"), ("[1/4, 1/4]", None), ("[1/4, 1)", None),
            ("[1/8, 3]", "[1/2, 1)"), ("(0, 1)", "(0, 1)"), ("[1/2, 1/2]", None), ("[15/64, 1/4]", "[15/16, 1)"),
        ]
        for text, expected in rows:
            self.assertEqual(told(wide.image(span(text))), expected)

    def test_images_cut_by_j(self):
        hole = Round(hole_floor(*KEPT[0][:2]), HOLE_LOOP)
        self.assertEqual(str(hole.room), "(1/16, 1)")
        (a, b), (c, d) = hole_lines(*KEPT[0][:2])
        self.assertEqual((a, b, c, d), (Fraction(1, 4), Fraction(17, 32), Fraction(1, 64), Fraction(979, 1024)))
        rows = [
            ("[1/2, 1/2]", "[21/32, 987/1024]"), ("[9/10, 9/10]", "[121/160, 4967/5120]"), ("[1/16, 1/16]", None),
            ("[1/8, 1/4)", "(9/16, 983/1024)"), ("(0, 1)", "(9/16, 995/1024)"), ("(0, 1/16]", None),
        ]
        for text, expected in rows:
            self.assertEqual(told(hole.image(span(text))), expected)

    def test_begun_at(self):
        for at, side in enumerate(HELD_LOOP):
            begun = self.held.begun_at(side)
            self.assertIs(begun.__class__, Round)
            self.assertEqual(begun.loop, HELD_LOOP[at:] + HELD_LOOP[:at])
        self.assertEqual(str(self.held.begun_at(HELD_LOOP[2]).image(span("[31/32, 31/32]"))), "[1/2, 31/32]")

    def test_begun_at_what_is_no_side(self):
        others = [((0, -2), (2, -2)), ((0, 0), (0, -2)), ((2, 0), (0, 0)), ((0, 0), (2, False)), ((False, 0), (2, 0))]
        for value in STRANGE + LISTS + NEAR_SIDES + others:
            refused(self, UnknownSide, [value], self.held.begun_at, value)

    def test_begun_at_where_it_is_no_round(self):
        found = 0
        for seed in range(0, 40, 2):
            floor = random_floor(Random(seed), 3, 2, most=9, split=True, steady=99)
            loops = set(rounds(floor))
            for loop in sorted(loops)[:60]:
                for at, side in enumerate(loop):
                    turn = loop[at:] + loop[:at]
                    if turn in loops:
                        self.assertEqual(Round(floor, loop).begun_at(side).loop, turn)
                    else:
                        found += 1
                        refused(self, InvalidRound, [turn], Round(floor, loop).begun_at, side)
                        refused(self, UnknownSide, [None], Round(floor, loop).begun_at, None)
        self.assertGreater(found, 0)

    def test_kept(self):
        for ways, corners, common, kept in KEPT:
            held = Round(hole_floor(ways, corners), HOLE_LOOP)
            self.assertEqual(told(held.kept), kept)
            if kept is None:
                continue
            (a, b), (c, d) = hole_lines(ways, corners)
            now, before = held.kept, span(common)
            if now.low != before.low:
                self.assertEqual(fraction(now.low), d / (1 - c))
            if now.high != before.high:
                self.assertEqual(fraction(now.high), b / (1 - a))
            self.assertIs(held.leads_into_itself(now), True)

    def test_kept_round_a_corner(self):
        rows = [
            # A and B have the slopes 1 and 16, 4 and 64, 1/64 and 1/4, 1/16 and 1, 1/4 and 4.
            ((ONE, ONE, ONE, ONE), "(0, 1)"),
            ((ONE, TWO, TWO, ONE), None),
            ((QUARTER, HALF, HALF, QUARTER), "(0, 1/4)"),
            ((HALF, HALF, HALF, HALF), "(0, 1)"),
            ((HALF, HALF, ONE, ONE), "(0, 1)"),
        ]
        for factors, kept in rows:
            self.assertEqual(told(Round(round_floor(*factors), HELD_LOOP).kept), kept)

    def test_from_each_kept_ratio_a_step_round_leads_into_the_kept_span(self):
        many = 0
        for ways, corners, _, kept in KEPT:
            if kept is not None:
                self.leads_back(Round(hole_floor(ways, corners), HOLE_LOOP))
        for seed in range(20):
            floor = random_floor(Random(seed), 2, 2, most=5, split=seed % 4 == 0, steady=99)
            for loop in islice(rounds(floor), 6):
                held = Round(floor, loop)
                if held.kept is not None:
                    many += 1
                    self.leads_back(held)
        self.assertGreater(many, 20)

    def leads_back(self, held):
        kept = held.kept
        tried = [kept.low, kept.high, kept.simplest()]
        tried += [kept.low + (kept.high - kept.low) * Ratio(k, 1000) for k in (1, 10, 300, 700, 990, 999)]
        for at in tried:
            if at in kept:
                there = held.image(Span.only(at))
                self.assertTrue(Spread([there]) & Spread([kept]), (held.loop, at))

    def test_beyond_the_kept_span_the_ball_comes_off(self):
        for ways, corners, common, kept in KEPT:
            if common is None:
                continue
            held = Round(hole_floor(ways, corners), HOLE_LOOP)
            lost = Spread([span(common)]) - Spread([] if kept is None else [span(kept)])
            for part in lost.walk():
                ahead = Spread([Span.only(part.simplest())])
                for _ in range(400):
                    there = [held.image(piece) for piece in (ahead & Spread([span(common)])).walk()]
                    ahead = Spread([piece for piece in there if piece is not None])
                self.assertFalse(ahead & Spread([span(common)]))


class SweepTests(unittest.TestCase):
    def swept(self, held, rows):
        for text, expected in rows:
            told_spread = held.sweep(span(text))
            self.assertIs(told_spread.__class__, Spread)
            self.assertEqual(str(told_spread), expected, text)

    def test_away_from_a_corner(self):
        self.swept(Round(held_floor(), HELD_LOOP), [
            ("[1/32, 1/32]", "[1/32, 1)"), ("(1/32, 1/16)", "(1/32, 1)"), ("[3/4, 3/4]", "[3/4, 1)"),
            ("(0, 1)", "(0, 1)"),
        ])
        # From x to all from 4x to 64x.
        self.swept(Round(round_floor(ONE, TWO, TWO, ONE), HELD_LOOP), [
            ("[1/1024, 1/1024]", "[1/1024, 1/1024] [1/256, 1)"),
            ("[1/1024, 1/512)", "[1/1024, 1/512) [1/256, 1)"),
            ("[1/1024, 1/256)", "[1/1024, 1)"),
            ("(1/256, 1/64)", "(1/256, 1/64) (1/64, 1)"),
            ("(1/256, 1/64]", "(1/256, 1)"),
            ("[1/8, 1/8]", "[1/8, 1/8] [1/2, 1)"),
            ("[1/8, 1/2)", "[1/8, 1)"),
            ("[1/4, 1/4]", "[1/4, 1/4]"),
            ("[3/16, 1/4]", "[3/16, 1/4] [3/4, 1)"),
            ("[1/2, 1/2]", "[1/2, 1/2]"),
            ("[1/2, 3/4)", "[1/2, 3/4)"),
        ])

    def test_towards_a_corner(self):
        # From x to all from x / 64 to x / 4.
        self.swept(Round(round_floor(QUARTER, HALF, HALF, QUARTER), HELD_LOOP), [
            ("[1/2, 1/2]", "(0, 1/8] [1/2, 1/2]"),
            ("[1/8, 1/2]", "(0, 1/2]"),
            ("(1/8, 1/2]", "(0, 1/2]"),
            ("(1/8, 1/2)", "(0, 1/8) (1/8, 1/2)"),
            ("[1/64, 1/64]", "(0, 1/256] [1/64, 1/64]"),
            ("(0, 1)", "(0, 1)"),
        ])
        # Images that stay apart for long: from x to all from 1/2 to 9/16 of x.
        near = ((1, 1), (100, 99))
        held = Round(round_floor(((1, 2), (51, 100)), near, near, near), HELD_LOOP)
        swept = held.sweep(span("[1/2, 1/2]"))
        self.assertGreater(len(swept), 8)
        top = Fraction(51, 100) * Fraction(100, 99) ** 3
        parts = []
        for k in range(len(swept) - 1):
            parts.append(Span(ratio(Fraction(1, 2) ** (k + 1)), ratio(top ** k / 2)))
        last = Span(Ratio(0), ratio(top ** (len(swept) - 1) / 2), has_low=False)
        self.assertEqual(swept, Spread(parts + [last]))

    def test_a_limit_that_is_not_reached(self):
        # A rests at 17/24 and B at 979/1008.
        held = Round(hole_floor(*KEPT[0][:2]), HOLE_LOOP)
        self.swept(held, [
            ("[1/2, 1/2]", "[1/2, 1/2] [21/32, 979/1008)"),
            ("[9/10, 9/10]", "(17/24, 979/1008)"),
            ("[3/4, 3/4]", "(17/24, 979/1008)"),
            ("[17/24, 17/24]", "[17/24, 979/1008)"),
            ("[979/1008, 979/1008]", "(17/24, 979/1008]"),
            ("[99/100, 99/100]", "(17/24, 24871/25600] [99/100, 99/100]"),
            ("[1/8, 1/4)", "[1/8, 1/4) (9/16, 979/1008)"),
            ("[1/16, 1/16]", "[1/16, 1/16]"),
            ("(0, 1/16)", "(0, 1/16)"),
            ("(0, 1)", "(0, 1)"),
        ])

    def test_a_limit_that_the_room_or_j_cuts(self):
        low, high, both = [Round(hole_floor(*row[:2]), HOLE_LOOP) for row in KEPT[1:4]]
        self.swept(low, [
            ("[5/8, 5/8]", "(0, 5/8]"), ("[1/2, 1/2]", "(0, 31/64] [1/2, 1/2]"), ("[2/3, 2/3]", "(0, 1)"),
        ])
        self.swept(both, [
            ("[1/2, 1/2]", "(0, 19/20)"), ("[1/4, 1/4]", "(0, 7/32] [1/4, 1/4]"), ("[23/82, 23/82]", "(0, 23/82]"),
            ("[9/10, 9/10]", "[9/10, 9/10]"), ("[97/100, 97/100]", "[97/100, 97/100]"),
        ])
        self.assertEqual(str(high.kept), "(0, 23/32]")

    def test_the_span_itself_outside_of_the_room(self):
        both = Round(hole_floor(*KEPT[3][:2]), HOLE_LOOP)
        self.swept(both, [
            ("[17/20, 99/100]", "[17/20, 99/100]"), ("(0, 13/54]", "(0, 13/54]"), ("[-3, 1/100)", "(0, 1/100)"),
            ("[99/100, 3]", "[99/100, 1)"), ("[-3, -2]", "none"), ("[0, 0]", "none"), ("[1, 1]", "none"),
            ("[2, 2]", "none"), ("(-1, 0]", "none"), ("[1, 2)", "none"), ("[-1, 2]", "(0, 1)"),
        ])

    def test_against_many_images(self):
        """The sweep has all images, it is closed, and it has nothing else than limits of the images."""
        chance = Random(11)
        held = [Round(hole_floor(*row[:2]), HOLE_LOOP) for row in KEPT]
        for seed in range(24):
            floor = random_floor(Random(seed), 2, 2, most=7, split=seed % 4 == 0, steady=99)
            held += [Round(floor, loop) for loop in islice(rounds(floor), seed % 3, 40, 4)]
        self.assertGreater(len(held), 40)
        for circle in held:
            for _ in range(4):
                low = chance.randint(0, 28)
                given = Span(
                    Ratio(low, 29), Ratio(low + chance.choice([0, 0, 1, 5, 12]), 29),
                    has_low=True, has_high=True,
                )
                self.compare(circle, given)

    def compare(self, held, given):
        swept = held.sweep(given)
        images = []
        there = model_cut(given)
        while there is not None and len(images) < 60:
            images.append(there)
            there = held.image(there)
        self.assertTrue(Spread(images).within(swept))
        for part in swept.walk():
            there = held.image(part)
            self.assertTrue(there is None or Spread([there]).within(swept))
        for part in (swept - Spread(images)).walk():
            # What many images miss lies near an end that is not reached, and is short.
            self.assertTrue((part.high - part.low).is_below(Ratio(1, 50)), (held.loop, str(given), str(part)))
            self.assertFalse(part.has_low and part.has_high)


def model_cut(given):
    both = (Spread([given]) & Spread([span("(0, 1)")])).spans()
    return both[0] if both else None


class ModelTests(unittest.TestCase):
    """Rounds of floors by chance, compared with steps that are found in another way."""

    def rounds(self, many):
        for seed in range(many):
            chance = Random(seed)
            floor = random_floor(chance, 2, 2, most=chance.choice([3, 7, 20]), split=seed % 5 == 0, steady=99)
            for loop in islice(rounds(floor), 0, 60, 9):
                yield chance, floor, Model(floor), Round(floor, loop)

    def test_room(self):
        for chance, floor, model, held in self.rounds(20):
            tried = [Fraction(k, 30) for k in range(1, 30)]
            tried += [fraction(held.room.low), fraction(held.room.high)]
            for at in tried:
                there = model.image(held.loop, (at, True, at, True))
                self.assertEqual(there is not None, ratio(at) in held.room)

    def test_images(self):
        for chance, floor, model, held in self.rounds(20):
            for _ in range(8):
                low = chance.randint(-3, 28)
                given = Span(
                    Ratio(low, 30), Ratio(low + chance.randint(1, 9), 30),
                    has_low=chance.random() < 0.5, has_high=chance.random() < 0.5,
                )
                self.assertEqual(ends(held.image(given)), model.image(held.loop, ends(given)))
            at = Ratio(chance.randint(1, 29), 30)
            self.assertEqual(ends(held.image(Span.only(at))), model.image(held.loop, ends(Span.only(at))))

    def test_leads_into_itself(self):
        yes = no = 0
        for chance, floor, model, held in self.rounds(25):
            begin = (Fraction(0), False, Fraction(1), False)
            home = span_of(model.along(held.loop[1:] + held.loop[:1], begin))
            common = Spread([home]) & Spread([held.room])
            low_line, high_line = lines_round(floor, held)
            for _ in range(12):
                low = chance.randint(0, 24)
                given = Span(
                    Ratio(low, 24), Ratio(low + chance.choice([0, 1, 3, 8]), 24),
                    has_low=True, has_high=True,
                ) if chance.random() < 0.5 else Span.between(Ratio(low, 24), Ratio(low + chance.randint(1, 9), 24))
                low, high = fraction(given.low), fraction(given.high)
                expected = Spread([given]).within(common) and high_line(low) >= low and low_line(high) <= high
                self.assertIs(held.leads_into_itself(given), expected)
                yes, no = yes + expected, no + (not expected)
        self.assertGreater(min(yes, no), 40)

    def test_leads_into_itself_at_the_ends(self):
        held = Round(hole_floor(*KEPT[3][:2]), HOLE_LOOP)
        rows = [
            ("[23/82, 107/128]", True), ("(23/82, 107/128)", True), ("[23/82, 23/82]", True),
            ("[107/128, 107/128]", True), ("[1/2, 1/2]", True), ("[11/41, 107/128]", False),
            ("[23/82, 27/32]", False), ("(11/41, 107/128]", False), ("(13/54, 17/20)", False),
            ("[1/4, 1/4]", False), ("[0, 1]", False), ("[-1, 1/2]", False),
            ("[1/2, 9]", False), ("[1/2, 17/20)", False), ("[1/2, 17/20]", False), ("[2, 3]", False),
        ]
        for text, expected in rows:
            self.assertIs(held.leads_into_itself(span(text)), expected, text)
        corner = Round(held_floor(), HELD_LOOP)
        rows = [
            ("(0, 1)", True), ("[0, 1)", False), ("(0, 1]", False), ("[1/2, 1/2]", True), ("(0, 1/9]", True),
            ("[0, 0]", False),
        ]
        for text, expected in rows:
            self.assertIs(corner.leads_into_itself(span(text)), expected, text)
        apart = Round(hole_floor(*KEPT[-1][:2]), HOLE_LOOP)
        for text in ("[1/2, 1/2]", "(0, 1)", "(0, 1/8)"):
            self.assertIs(apart.leads_into_itself(span(text)), False)


if __name__ == "__main__":
    unittest.main()
