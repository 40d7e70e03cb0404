import unittest
from random import Random

from kit import (
    HALF, HELD_HOLE, HELD_LOOP, HOLE_LOOP, LEFT, LOW, LOWER, MIDDLE, NO_COUNTS, NO_PLACES, RIGHT, TOP, UPPER,
    held_floor, hole_floor, pair_floor, random_floor, random_place, random_winds, refused, round_floor,
    shrinking_floor, shrunk, texts,
)

from gustfloor import deciding
from gustfloor.changes import turned, walled, with_winds
from gustfloor.deciding import decide, decide_rolling, unlike
from gustfloor.errors import InvalidCount, InvalidPlace, TooFar
from gustfloor.floors import Floor
from gustfloor.papers import Barred, Resting, Rolling, Way
from gustfloor.ratios import Ratio
from gustfloor.reaching import can_reach, reached
from gustfloor.rounds import Round, rounds
from gustfloor.spans import Spread
from gustfloor.tiles import Tile
from gustfloor.ways import fewest, is_way

START, NEAR, FAR = (LOW, HALF), (UPPER, Ratio(1, 4)), (UPPER, Ratio(3, 4))


class DecideTests(unittest.TestCase):
    def test_interface(self):
        for name in ("decide", "decide_rolling", "unlike"):
            self.assertEqual(getattr(deciding, name).__module__, "gustfloor.deciding")

    def test_a_way(self):
        floor = pair_floor()
        for goal, many in ((NEAR, 2), ((MIDDLE, HALF), 1), (START, 0)):
            paper = decide(floor, START, goal)
            self.assertIs(paper.__class__, Way)
            self.assertEqual((paper.floor, paper.start, paper.goal), (floor, START, goal))
            self.assertEqual(paper.told(), f"way {many}")
            self.assertIs(paper.holds(), True)
            self.assertEqual(decide(goal=goal, start=START, floor=floor, most=many).places(), paper.places())

    def test_no_way(self):
        floor = pair_floor()
        for goal in (FAR, (TOP, HALF), (LOW, Ratio(1, 3)), (LEFT, HALF), (LOWER, HALF), (RIGHT, HALF)):
            for most in (0, 1, 400):
                paper = decide(floor, START, goal, most=most)
                self.assertIs(paper.__class__, Barred)
                self.assertEqual((paper.floor, paper.start, paper.goal), (floor, START, goal))
                self.assertEqual(paper.told(), "barred 3")
                self.assertEqual(paper.rows(), reached(floor, START))
                self.assertIs(paper.holds(), True)

    def test_walls(self):
        floor = pair_floor(walls=[MIDDLE])
        place = (MIDDLE, HALF)
        self.assertEqual(decide(floor, place, place).told(), "way 0")
        self.assertTrue(decide(floor, place, place).holds())
        for start, goal in ((START, place), (place, NEAR), (place, (MIDDLE, Ratio(1, 3)))):
            paper = decide(floor, start, goal)
            self.assertEqual((paper.KIND, paper.holds(), paper.rows()), ("barred", True, reached(floor, start)))

    def test_the_greatest_number_of_pieces(self):
        floor = pair_floor()
        for most in (0, 1):
            refused(self, TooFar, [most], decide, floor, START, NEAR, most=most)
        for most in (2, 3, 10 ** 99):
            self.assertEqual(decide(floor, START, NEAR, most=most).told(), "way 2")
        floor = shrinking_floor()
        start = (HELD_LOOP[0], Ratio(9, 10))
        near, far = [(HELD_LOOP[0], shrunk(Ratio(9, 10), many)) for many in (400, 404)]
        paper = decide(floor, start, near)
        self.assertEqual((paper.told(), paper.holds()), ("way 400", True))
        refused(self, TooFar, [400], decide, floor, start, far)
        paper = decide(floor, start, far, most=404)
        self.assertEqual((paper.told(), paper.holds()), ("way 404", True))
        self.assertEqual(decide(floor, far, start).told(), "barred 4")

    def test_refused(self):
        floor = pair_floor()
        for value in NO_PLACES:
            refused(self, InvalidPlace, [value], decide, floor, value, START)
            refused(self, InvalidPlace, [value], decide, floor, START, value)
            refused(self, InvalidPlace, [value], decide, floor, value, None, most=None)
        for most in NO_COUNTS:
            for goal in (START, NEAR, FAR):
                refused(self, InvalidCount, [most], decide, floor, START, goal, most=most)
            refused(self, InvalidPlace, [7], decide, floor, START, 7, most=most)

    def test_on_floors_by_chance(self):
        told = {"way": 0, "barred": 0}
        for seed in range(40):
            chance = Random(seed)
            height, most, steady = chance.choice([2, 3]), chance.choice([2, 9]), chance.choice([4, 99])
            floor = random_floor(chance, 2, height, most=most, steady=steady)
            for _ in range(8):
                start, goal = random_place(chance, floor), random_place(chance, floor)
                paper = decide(floor, start, goal, most=1000)
                told[paper.KIND] += 1
                self.assertIs(paper.holds(), True)
                self.assertEqual((paper.floor, paper.start, paper.goal), (floor, start, goal))
                self.assertEqual(bool(paper), can_reach(floor, start, goal)[0])
                if paper:
                    self.assertEqual(paper.told(), f"way {fewest(floor, start, goal)}")
                    self.assertIs(decide(turned(floor), goal, start).holds(), True)
                else:
                    self.assertEqual(paper.rows(), reached(floor, start))
                    # No paper of the other kind can be made of it.
                    self.assertIs(Way(floor, start, goal, [start, goal]).holds(), False)
        self.assertGreater(min(told.values()), 10)


class RollingTests(unittest.TestCase):
    def check_rolling(self, floor, start):
        paper = decide_rolling(floor, start)
        self.assertIs(paper.__class__, Rolling)
        self.assertIs(paper.holds(), True)
        self.assertEqual((paper.floor, paper.start, paper.places()[0]), (floor, start, start))
        self.assertTrue(is_way(floor, paper.places()))
        side, ratio = paper.places()[-1]
        self.assertEqual(side, paper.loop[0])
        self.assertIn(ratio, paper.span)
        self.assertTrue(Round(floor, paper.loop).leads_into_itself(paper.span))
        self.assertEqual(paper.told(), f"rolls {len(paper.loop)}")

    def check_resting(self, floor, start):
        paper = decide_rolling(floor, start)
        self.assertIs(paper.__class__, Resting)
        self.assertIs(paper.holds(), True)
        self.assertEqual((paper.floor, paper.start, paper.rows()), (floor, start, reached(floor, start)))

    def test_no_round_at_all(self):
        for floor in (pair_floor(), pair_floor(walls=[MIDDLE]), turned(pair_floor())):
            for side in floor.sides():
                self.check_resting(floor, (side, HALF))

    def test_round_a_corner(self):
        floor = held_floor()
        for side in HELD_LOOP:
            for at in (Ratio(1, 1000), HALF, Ratio(999, 1000)):
                self.check_rolling(floor, (side, at))
                self.check_resting(walled(floor, side), (side, at))
        self.check_rolling(floor=floor, start=(HELD_LOOP[2], HALF))
        for side in floor.sides():
            if floor.kind(side) == "rest":
                self.check_resting(floor, (side, HALF))

    def test_sides_without_end_on_the_way_to_a_corner(self):
        """The ball comes ever nearer to the corner, but it crosses sides without end."""
        shrink = ((1, 4), (1, 2))
        self.check_rolling(round_floor(shrink, shrink, shrink, shrink), (HELD_LOOP[0], HALF))

    def test_growing_ways(self):
        """Each round leads at least twice as far from the corner, and at last beyond the sides."""
        grow = ((2, 1), (3, 1))
        for at in (HALF, Ratio(1, 10 ** 6), Ratio(1, 10 ** 30)):
            self.check_resting(round_floor(grow, grow, grow, grow), (HELD_LOOP[0], at))

    def test_the_ends_of_a_kept_span(self):
        floor = hole_floor(*HELD_HOLE)
        first = HOLE_LOOP[0]
        for at in ("5/8", "5000001/8000000", "3/4", "99/100"):
            self.check_rolling(floor, (first, Ratio.read(at)))
        for at in ("1/100", "1/3", "9/16", "4999999/8000000"):
            self.check_resting(floor, (first, Ratio.read(at)))

    def test_refused(self):
        floor = held_floor()
        for value in NO_PLACES:
            refused(self, InvalidPlace, [value], decide_rolling, floor, value)
        refused(self, InvalidPlace, [START], decide_rolling, floor, start=START)

    def test_equal_calls(self):
        one, other = [decide_rolling(floor, (HELD_LOOP[1], HALF)) for floor in (held_floor(), held_floor())]
        self.assertEqual((one.places(), one.loop, one.span), (other.places(), other.loop, other.span))

    def test_by_all_rounds(self):
        """On floors by chance, the same as by the kept span of each round, also of those that cross a tile twice."""
        told = {True: 0, False: 0}
        for seed in range(40):
            chance = Random(500 + seed)
            size = (2, 2) if seed % 8 == 0 else (2, chance.choice([2, 3]))
            floor = random_floor(chance, *size, split=seed % 8 == 0, most=chance.choice([2, 4, 9]), steady=99)
            kept = [(loop[0], Round(floor, loop).kept) for loop in rounds(floor)]
            kept = [(side, Spread([held])) for side, held in kept if held is not None]
            for side in chance.sample(floor.sides(), 8):
                start = (side, Ratio(chance.randint(1, 12), 13))
                spreads = dict(reached(floor, start))
                answer = any(held & spreads.get(first, Spread()) for first, held in kept)
                (self.check_rolling if answer else self.check_resting)(floor, start)
                told[answer] += 1
        self.assertGreater(min(told.values()), 30)

    def test_many_rounds(self):
        """Sixteen tiles with eight sides each, whose winds go round nine corners."""
        floor = random_floor(Random(4), 4, 4, split=True, most=9, steady=999)
        passes = [side for side in floor.sides() if floor.kind(side) == "pass"]
        self.check_rolling(floor, (passes[7], HALF))


class UnlikeTests(unittest.TestCase):
    def test_pairs(self):
        one, other = pair_floor(), pair_floor(walls=[MIDDLE])
        self.assertEqual(unlike(one, other, [START, NEAR]), (0, 1))
        self.assertEqual(unlike(one, other, (NEAR, START)), (1, 0))
        self.assertEqual(unlike(other, one, [FAR, (LEFT, HALF), START, (TOP, HALF), (MIDDLE, HALF), NEAR]), (2, 4))
        self.assertEqual(unlike(places=[NEAR, START, NEAR], other=other, one=one), (1, 0))
        self.assertEqual(unlike(one, other, [START, START, NEAR, NEAR]), (0, 2))

    def test_none(self):
        one, other = pair_floor(), pair_floor(walls=[MIDDLE])
        for places in ([], (), [START], [START, FAR], [FAR, NEAR, (TOP, HALF)], [START, START]):
            self.assertIsNone(unlike(one, other, places))
        self.assertIsNone(unlike(one, pair_floor(), [START, NEAR, FAR, (MIDDLE, HALF), (TOP, HALF)]))

    def test_the_first_value_that_is_no_place_of_both(self):
        one = pair_floor()
        other = Floor([Tile.box("a", (0, 0), (4, 4), ((1, 1), (1, 2)))])
        self.assertIsNone(unlike(one, other, [START, (TOP, HALF), (LEFT, HALF)]))
        for places in ([START, NEAR], [START, NEAR, 3], [NEAR], (NEAR, START)):
            refused(self, InvalidPlace, [NEAR], unlike, one, other, places)
            refused(self, InvalidPlace, [NEAR], unlike, other, one, places)
        for value in NO_PLACES:
            refused(self, InvalidPlace, [value], unlike, one, one, [value])
            refused(self, InvalidPlace, [value], unlike, one, one, [START, START, value, None])
            # The places in front of it differ already.
            refused(self, InvalidPlace, [value], unlike, one, pair_floor(walls=[MIDDLE]), [START, NEAR, value])

    def test_on_floors_by_chance(self):
        told = {True: 0, False: 0}
        for seed in range(30):
            chance = Random(seed)
            one = random_floor(chance, 2, 2, most=4)
            if seed % 2:
                tile = chance.choice(one.tiles())
                other = with_winds(one, tile.label, *random_winds(chance, tile.corners, 4))
            else:
                other = walled(one, chance.choice([side for side in one.sides() if len(one.tiles_at(side)) == 2]))
            places = [random_place(chance, one) for _ in range(6)]
            pairs = [(at, to) for at in range(6) for to in range(6)]
            unequal = [
                (at, to) for at, to in pairs
                if can_reach(one, places[at], places[to]) != can_reach(other, places[at], places[to])
            ]
            self.assertEqual(unlike(one, other, places), min(unequal, default=None))
            self.assertEqual(unlike(other, one, places), min(unequal, default=None))
            told[bool(unequal)] += 1
        self.assertGreater(min(told.values()), 4)


class ReachedTests(unittest.TestCase):
    def test_a_barred_tells_what_reached_tells(self):
        self.assertEqual(
            texts(decide(pair_floor(), START, FAR).rows()),
            [(LOW, "[1/2, 1/2]"), (MIDDLE, "[1/2, 1)"), (UPPER, "(0, 1/2]")],
        )


if __name__ == "__main__":
    unittest.main()
