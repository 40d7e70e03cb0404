import unittest
from fractions import Fraction
from random import Random

from kit import (
    EAST, HALF, HELD_LOOP, HOLE_LOOP, LEFT, LOW, LOWER, MIDDLE, NO_COUNTS, NO_PLACES, RIGHT, TOP, UPPER, held_floor,
    hole_floor, pair_floor, random_floor, random_place, refused, shrinking_floor, shrunk,
)
from model import Model, fraction

from gustfloor import ways
from gustfloor.changes import turned, walled
from gustfloor.errors import InvalidCount, InvalidPlace, TooFar
from gustfloor.floors import Floor
from gustfloor.ratios import Ratio
from gustfloor.reaching import can_reach, reached
from gustfloor.tiles import Tile
from gustfloor.ways import fewest, find_way, is_piece, is_way


def apart_floor():
    """Two boxes of which the winds lead away from the side between them, to the north west and the north east."""
    return Floor([Tile.box("a", (0, 0), (4, 4), ((-1, 2), (-1, 1))), Tile.box("b", (4, 0), (8, 4), EAST)])


def fewest_in_model(model, start, goal, most):
    """The least number of pieces by spans of so many pieces each, one by one; None if there are more than most."""
    at, to = fraction(start[1]), fraction(goal[1])
    rows = {(start[0], (at, True, at, True))}
    for many in range(most + 1):
        for side, (low, has_low, high, has_high) in rows:
            if side == goal[0] and (low < to < high or (low == to and has_low) or (high == to and has_high)):
                return many
        steps = [(other, model.step(side, other, row)) for side, row in rows for other in model.floor.sides()]
        rows = {(other, row) for other, row in steps if row is not None}
    return None


class PieceTests(unittest.TestCase):
    def test_interface(self):
        for name in ("is_piece", "is_way", "fewest", "find_way"):
            self.assertEqual(getattr(ways, name).__module__, "gustfloor.ways")

    def test_directions_between_the_winds(self):
        floor = pair_floor()
        start = (LOW, Ratio(1, 4))
        tiny = Ratio(1, 10 ** 60)
        rows = [
            # Along the first wind, just beyond it, and between both.
            (MIDDLE, Ratio(3, 4), True), (MIDDLE, Ratio(3, 4) - tiny, False), (MIDDLE, Ratio(3, 4) + tiny, True),
            (MIDDLE, Ratio(1, 8), False), (MIDDLE, Ratio(1) - tiny, True),
            # Along the second wind, just beyond it, and between both.
            (TOP, Ratio(3, 4), True), (TOP, Ratio(3, 4) - tiny, False), (TOP, Ratio(3, 4) + tiny, True),
            (TOP, tiny, False), (TOP, Ratio(1) - tiny, True),
        ]
        for side, at, expected in rows:
            self.assertIs(is_piece(floor, start, (side, at)), expected, (side, str(at)))
            self.assertIs(is_piece(other=(side, at), one=start, floor=floor), expected)

    def test_directions_against_the_winds(self):
        floor = pair_floor()
        for side, at in ((MIDDLE, Ratio(3, 4)), (TOP, Ratio(3, 4))):
            self.assertIs(is_piece(floor, (LOW, Ratio(1, 4)), (side, at)), True)
            self.assertIs(is_piece(floor, (side, at), (LOW, Ratio(1, 4))), False)
            self.assertIs(is_piece(turned(floor), (side, at), (LOW, Ratio(1, 4))), True)

    def test_sides_that_let_in_or_out_both(self):
        floor = pair_floor()
        for one in (LOW, LEFT):
            for other in (LOW, LEFT):
                self.assertIs(is_piece(floor, (one, HALF), (other, HALF)), False)
        for one in (TOP, MIDDLE):
            self.assertIs(is_piece(floor, (one, HALF), (TOP, Ratio(2, 3))), False)

    def test_places_on_one_side(self):
        floor = pair_floor()
        for side in floor.sides():
            self.assertIs(is_piece(floor, (side, HALF), (side, HALF)), False)
            self.assertIs(is_piece(floor, (side, HALF), (side, Ratio(2, 3))), False)
            self.assertIs(is_piece(floor, (side, Ratio(2, 3)), (side, HALF)), False)

    def test_places_of_no_common_tile(self):
        floor = pair_floor()
        # The direction lies between the winds all the same.
        self.assertIs(is_piece(floor, (LOW, HALF), (UPPER, Ratio(1, 4))), False)
        self.assertIs(is_piece(floor, (LOW, HALF), (RIGHT, Ratio(7, 8))), False)
        self.assertIs(is_piece(floor, (LOW, HALF), (LOWER, HALF)), False)

    def test_walls(self):
        one, two, three = (LOW, HALF), (MIDDLE, Ratio(3, 4)), (UPPER, Ratio(1, 4))
        self.assertEqual([is_piece(pair_floor(), one, two), is_piece(pair_floor(), two, three)], [True, True])
        floor = pair_floor(walls=[MIDDLE])
        self.assertEqual([is_piece(floor, one, two), is_piece(floor, two, three)], [False, False])
        self.assertIs(is_piece(floor, (LOW, Ratio(1, 4)), (TOP, Ratio(3, 4))), True)

    def test_a_side_that_lets_into_two_tiles(self):
        floor = apart_floor()
        self.assertEqual(floor.kind(MIDDLE), "spring")
        self.assertIs(is_piece(floor, (MIDDLE, HALF), (TOP, HALF)), True)
        self.assertIs(is_piece(floor, (MIDDLE, HALF), (TOP, Ratio(1, 4))), False)
        self.assertIs(is_piece(floor, (MIDDLE, HALF), (UPPER, HALF)), True)
        self.assertIs(is_piece(floor, (MIDDLE, HALF), (UPPER, Ratio(3, 4))), False)
        self.assertIs(is_piece(floor, (LOW, HALF), (MIDDLE, HALF)), False)
        self.assertIs(is_piece(walled(floor, MIDDLE), (MIDDLE, HALF), (TOP, HALF)), False)
        rest = turned(floor)
        self.assertEqual(rest.kind(MIDDLE), "rest")
        self.assertIs(is_piece(rest, (TOP, HALF), (MIDDLE, HALF)), True)
        self.assertIs(is_piece(rest, (UPPER, HALF), (MIDDLE, HALF)), True)
        self.assertIs(is_piece(rest, (MIDDLE, HALF), (UPPER, HALF)), False)

    def test_the_first_value_that_is_no_place(self):
        floor = pair_floor()
        place = (LOW, HALF)
        for value in NO_PLACES:
            refused(self, InvalidPlace, [value], is_piece, floor, value, place)
            refused(self, InvalidPlace, [value], is_piece, floor, place, value)
            refused(self, InvalidPlace, [value], is_piece, floor, value, None)
        refused(self, InvalidPlace, [(HELD_LOOP[0], HALF)], is_piece, floor, place, (HELD_LOOP[0], HALF))

    def test_on_floors_by_chance(self):
        told = {True: 0, False: 0}
        for seed in range(30):
            chance = Random(seed)
            floor = random_floor(chance, 2, 2, most=chance.choice([2, 9]))
            model = Model(floor)
            for _ in range(100):
                one, other = random_place(chance, floor), random_place(chance, floor)
                expected = model.is_piece(one[0], fraction(one[1]), other[0], fraction(other[1]))
                self.assertIs(is_piece(floor, one, other), expected)
                told[expected] += 1
        self.assertGreater(min(told.values()), 50)


class IsWayTests(unittest.TestCase):
    def test_lists_and_tuples(self):
        floor = pair_floor()
        way = [(LOW, HALF), (MIDDLE, Ratio(3, 4)), (UPPER, Ratio(1, 4))]
        for many in (1, 2, 3):
            self.assertIs(is_way(floor, way[:many]), True)
            self.assertIs(is_way(floor, tuple(way[:many])), True)
        self.assertIs(is_way(value=way, floor=floor), True)
        self.assertIs(is_way(walled(floor, MIDDLE), way), False)

    def test_one_place(self):
        for floor in (pair_floor(), pair_floor(walls=[MIDDLE])):
            for side in floor.sides():
                self.assertIs(is_way(floor, [(side, HALF)]), True)
                self.assertIs(is_way(floor, ((side, HALF),)), True)

    def test_wrong_ways(self):
        floor = pair_floor()
        one, two, three = (LOW, HALF), (MIDDLE, Ratio(3, 4)), (UPPER, Ratio(1, 4))
        wrong = [
            [], (), [one, three], [two, one], [one, two, two], [one, one], [three, two, one], [one, two, three, one],
            [one, (MIDDLE, Ratio(1, 4)), three], [one, two, (UPPER, HALF)], (one, three), [[one, two, three]],
            ((one,),),
        ]
        for value in wrong:
            self.assertIs(is_way(floor, value), False, value)

    def test_any_values(self):
        floor = pair_floor()
        for value in NO_PLACES:
            self.assertIs(is_way(floor, value), False)
            self.assertIs(is_way(floor, [value]), False)
            self.assertIs(is_way(floor, (value,)), False)
            self.assertIs(is_way(floor, [value, (LOW, HALF)]), False)
            self.assertIs(is_way(floor, [(LOW, HALF), value]), False)
            self.assertIs(is_way(floor, [(LOW, HALF), value, (UPPER, Ratio(1, 4))]), False)
        for value in ((LOW, HALF), "0,0:4,0@1/2", {1: 2}):
            self.assertIs(is_way(floor, value), False)


class FewestTests(unittest.TestCase):
    def test_two_boxes(self):
        floor = pair_floor()
        start = (LOW, HALF)
        rows = [
            (start, 0), ((MIDDLE, HALF), 1), ((MIDDLE, Ratio(49, 100)), None), ((UPPER, HALF), 2),
            ((UPPER, Ratio(51, 100)), None), ((TOP, HALF), None), ((LOW, Ratio(1, 3)), None),
        ]
        for goal, many in rows:
            self.assertEqual(fewest(floor, start, goal), many)
            self.assertEqual(fewest(goal=goal, start=start, floor=floor), many)
            way = find_way(floor, start, goal)
            if many is None:
                self.assertIsNone(way)
                self.assertIsNone(find_way(floor, start, goal, most=0))
            else:
                self.assertIs(way.__class__, list)
                self.assertEqual((way[0], way[-1], len(way)), (start, goal, many + 1))
                self.assertTrue(is_way(floor, way))
                self.assertEqual(find_way(most=many, goal=goal, floor=floor, start=start), way)

    def test_from_a_place_to_itself(self):
        for floor in (pair_floor(), pair_floor(walls=[MIDDLE]), held_floor()):
            for side in floor.sides():
                place = (side, Ratio(2, 7))
                self.assertEqual(fewest(floor, place, place), 0)
                self.assertEqual(find_way(floor, place, place), [place])
                self.assertEqual(find_way(floor, place, place, most=0), [place])

    def test_walls(self):
        floor = pair_floor(walls=[MIDDLE])
        for start, goal in (((LOW, HALF), (MIDDLE, Ratio(3, 4))), ((MIDDLE, Ratio(3, 4)), (UPPER, Ratio(1, 4)))):
            self.assertEqual(fewest(pair_floor(), start, goal), 1)
            self.assertIsNone(fewest(floor, start, goal))
            self.assertIsNone(find_way(floor, start, goal))
        self.assertIsNone(fewest(floor, (MIDDLE, HALF), (MIDDLE, Ratio(1, 3))))

    def test_the_greatest_number_of_pieces(self):
        floor = pair_floor()
        start, goal = (LOW, HALF), (UPPER, Ratio(1, 4))
        for most in (0, 1):
            refused(self, TooFar, [most], find_way, floor, start, goal, most=most)
        for most in (2, 3, 400, 10 ** 99):
            self.assertEqual(len(find_way(floor, start, goal, most=most)), 3)
        for most in (0, 1, 10 ** 99):
            self.assertIsNone(find_way(floor, goal, start, most=most))

    def test_the_usual_greatest_number(self):
        floor = shrinking_floor()
        first = HELD_LOOP[0]
        start = (first, Ratio(9, 10))
        # The first side is met with each fourth piece.
        near, far = [(first, shrunk(Ratio(9, 10), many)) for many in (400, 404)]
        self.assertEqual([fewest(floor, start, near), fewest(floor, start, far)], [400, 404])
        self.assertEqual(len(find_way(floor, start, near)), 401)
        refused(self, TooFar, [400], find_way, floor, start, far)
        refused(self, TooFar, [399], find_way, floor, start, near, most=399)
        refused(self, TooFar, [403], find_way, floor, start, far, most=403)
        for most in (404, 405):
            way = find_way(floor, start, far, most=most)
            self.assertEqual((way[0], way[-1], len(way)), (start, far, 405))
            self.assertTrue(is_way(floor, way))

    def test_refused(self):
        floor = pair_floor()
        place = (LOW, HALF)
        for call in (fewest, find_way):
            for value in NO_PLACES:
                refused(self, InvalidPlace, [value], call, floor, value, place)
                refused(self, InvalidPlace, [value], call, floor, place, value)
                refused(self, InvalidPlace, [value], call, floor, value, None)
        for most in NO_COUNTS:
            refused(self, InvalidCount, [most], find_way, floor, place, place, most=most)
            refused(self, InvalidCount, [most], find_way, floor, place, (UPPER, Ratio(1, 4)), most=most)
            refused(self, InvalidCount, [most], find_way, floor, place, (TOP, HALF), most=most)
            refused(self, InvalidPlace, [None], find_way, floor, None, place, most=most)
            refused(self, InvalidPlace, [7], find_way, floor, place, 7, most=most)
        with self.assertRaises(TypeError):
            find_way(floor, place, place, 400)


class LongWayTests(unittest.TestCase):
    def test_round_a_corner(self):
        floor = shrinking_floor()
        first = HELD_LOOP[0]
        for many in (4, 48, 300):
            goal = (first, shrunk(HALF, many))
            way = find_way(floor, (first, HALF), goal)
            self.assertEqual(len(way), many + 1)
            self.assertTrue(is_way(floor, way))
            self.assertEqual([side for side, _ in way[:5]], [*HELD_LOOP, first])

    def test_round_a_hole(self):
        floor = hole_floor([((-1, 100), (-1, 500))] * 4, [((999, 1000), (1001, 1000))] * 4)
        start, goal = (HOLE_LOOP[0], Ratio(1, 10)), (HOLE_LOOP[0], Ratio(3, 4))
        model = Model(floor)
        row = (Fraction(1, 10), True, Fraction(1, 10), True)
        many = 0
        # The ball can be kept from going farther on a round, so the number depends on the far end alone.
        while row[2] < Fraction(3, 4):
            row = model.image(HOLE_LOOP, row)
            many += len(HOLE_LOOP)
        self.assertGreater(many, 300)
        way = find_way(floor, start, goal, most=many)
        self.assertEqual((len(way), way[0], way[-1]), (many + 1, start, goal))
        self.assertTrue(is_way(floor, way))
        self.assertEqual(fewest(floor, start, goal), many)
        refused(self, TooFar, [many - 1], find_way, floor, start, goal, most=many - 1)
        self.assertIsNone(fewest(floor, goal, start))

    def test_no_way_beyond_a_limit(self):
        """The ball comes as near to the limit as one likes, with more and more pieces."""
        low, high = ((1, 4), (1, 2)), ((1, 2), (1, 1))
        floor = hole_floor([low] * 4, [low, high, high, low])
        first = HOLE_LOOP[0]
        limit = Ratio(979, 1008)
        self.assertIsNone(fewest(floor, (first, HALF), (first, limit)))
        before = 0
        for power in (4, 16, 64, 128):
            near = (first, limit - Ratio(1, 2 ** power))
            many = fewest(floor, (first, HALF), near)
            self.assertGreater(many, before)
            self.assertTrue(is_way(floor, find_way(floor, (first, HALF), near, most=many)))
            before = many


class LawTests(unittest.TestCase):
    """What holds on all floors, tried on floors by chance."""

    def test_the_fewest_pieces(self):
        told = {}
        for seed in range(24):
            chance = Random(seed)
            floor = random_floor(chance, 2, 2, split=seed % 8 == 0, most=chance.choice([2, 9]), steady=99)
            model = Model(floor)
            start = (chance.choice(floor.sides()), Ratio(chance.randint(1, 12), 13))
            for side, spread in reached(floor, start):
                for span in spread.walk():
                    goal = (side, span.simplest())
                    many = fewest(floor, start, goal)
                    told[many] = told.get(many, 0) + 1
                    if many < 8:
                        self.assertEqual(fewest_in_model(model, start, goal, 8), many)
                    way = find_way(floor, start, goal, most=many)
                    self.assertEqual((way[0], way[-1], len(way)), (start, goal, many + 1))
                    self.assertTrue(is_way(floor, way))
                    if many:
                        refused(self, TooFar, [many - 1], find_way, floor, start, goal, most=many - 1)
        self.assertGreater(len(told), 6)

    def test_way_or_none(self):
        told = {True: 0, False: 0}
        for seed in range(30):
            chance = Random(100 + seed)
            floor = random_floor(chance, 2, 3, most=chance.choice([2, 9]), steady=4)
            for _ in range(8):
                start, goal = random_place(chance, floor), random_place(chance, floor)
                answer = can_reach(floor, start, goal)[0]
                self.assertEqual(find_way(floor, start, goal, most=1000) is not None, answer)
                self.assertEqual(fewest(turned(floor), goal, start), fewest(floor, start, goal))
                told[answer] += 1
        self.assertGreater(min(told.values()), 5)

    def test_equal_calls(self):
        floor = held_floor()
        start, goal = (HELD_LOOP[0], Ratio(1, 32)), (HELD_LOOP[2], Ratio(3, 4))
        self.assertEqual(find_way(floor, start, goal), find_way(held_floor(), start, goal))
        way = find_way(floor, start, goal)
        way.clear()
        self.assertTrue(find_way(floor, start, goal))


if __name__ == "__main__":
    unittest.main()
