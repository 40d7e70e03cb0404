import unittest
from random import Random

from kit import (
    HALF, HELD_LOOP, HOLE_LOOP, LEFT, LOW, LOWER, MIDDLE, NO_PLACES, RIGHT, TOP, UPPER, held_floor, hole_floor,
    pair_floor, random_floor, random_place, refused, round_floor, spread, texts,
)
from model import Model, ends, span_of

from gustfloor import reaching
from gustfloor.changes import joined, opened, parted, turned, walled
from gustfloor.errors import InvalidChord, InvalidPlace, NotJoined, TooMany
from gustfloor.floors import Floor
from gustfloor.ratios import Ratio
from gustfloor.reaching import can_reach, reached, sources
from gustfloor.spans import Span, Spread
from gustfloor.tiles import Tile

QUARTER = ((1, 4), (1, 2))
HALVED = ((1, 2), (1, 1))
ONE = ((1, 1), (2, 1))
TWO = ((2, 1), (4, 1))


def has(rows, place):
    return any(side == place[0] and place[1] in spread for side, spread in rows)


def floors_by_chance(seed, many, most_size=3, **more):
    """Floors, most of which have rounds, some with a wall."""
    for k in range(many):
        chance = Random(1000 * seed + k)
        split = k % 6 == 0
        size = (2, 2) if split else (chance.randint(2, most_size), chance.randint(2, most_size))
        floor = random_floor(
            chance, *size, split=split, most=chance.choice([2, 4, 9, 25]), steady=chance.choice([4, 99]), **more,
        )
        if k % 4 == 3:
            floor = walled(floor, chance.choice(shared(floor)))
        yield chance, floor


def shared(floor):
    return [side for side in floor.sides() if len(floor.tiles_at(side)) == 2]


def passed(floor):
    return [side for side in floor.sides() if floor.kind(side) == "pass"] or floor.sides()


class RefusedTests(unittest.TestCase):
    def test_interface(self):
        for call in (can_reach, reached, sources):
            self.assertEqual(call.__module__, "gustfloor.reaching")
            self.assertIs(getattr(reaching, call.__name__), call)

    def test_any_value(self):
        floor = pair_floor()
        place = (LOW, HALF)
        for value in NO_PLACES:
            refused(self, InvalidPlace, [value], reached, floor, value)
            refused(self, InvalidPlace, [value], sources, floor, value)
            refused(self, InvalidPlace, [value], can_reach, floor, value)
            refused(self, InvalidPlace, [value], can_reach, floor, value, place)
            refused(self, InvalidPlace, [value], can_reach, floor, value, None, 3)
            refused(self, InvalidPlace, [value], can_reach, floor, place, value)
            refused(self, InvalidPlace, [value], can_reach, floor, place, place, value, place, None)


class ToldTests(unittest.TestCase):
    def test_two_boxes(self):
        floor = pair_floor()
        rows = reached(floor=floor, place=(LOW, HALF))
        self.assertIs(rows.__class__, list)
        self.assertTrue(all(row.__class__ is tuple and row[1].__class__ is Spread for row in rows))
        self.assertEqual(texts(rows), [(LOW, "[1/2, 1/2]"), (MIDDLE, "[1/2, 1)"), (UPPER, "(0, 1/2]")])
        rows = [
            ((LOW, Ratio(1, 4)), [(LOW, "[1/4, 1/4]"), (TOP, "[3/4, 1)"), (MIDDLE, "[3/4, 1)"), (UPPER, "(0, 1/4]")]),
            ((LEFT, HALF), [(LEFT, "[1/2, 1/2]"), (TOP, "[1/4, 1/2]")]),
            ((LOW, Ratio(7, 8)), [
                (LOW, "[7/8, 7/8]"), (MIDDLE, "[1/8, 1/4]"), (UPPER, "[3/8, 7/8]"),
            ]),
            ((LOWER, HALF), [(LOWER, "[1/2, 1/2]"), (RIGHT, "[1/2, 1)")]),
            ((TOP, HALF), [(TOP, "[1/2, 1/2]")]),
            ((RIGHT, HALF), [(RIGHT, "[1/2, 1/2]")]),
        ]
        for place, expected in rows:
            self.assertEqual(texts(reached(floor, place)), expected)

    def test_sources_of_two_boxes(self):
        floor = pair_floor()
        rows = [
            ((MIDDLE, HALF), [(LOW, "[1/2, 3/4]"), (MIDDLE, "[1/2, 1/2]")]),
            ((LEFT, HALF), [(LEFT, "[1/2, 1/2]")]),
            ((TOP, HALF), [(LEFT, "(0, 1/2]"), (TOP, "[1/2, 1/2]")]),
            ((TOP, Ratio(1, 4)), [(LEFT, "[1/2, 3/4]"), (TOP, "[1/4, 1/4]")]),
            ((RIGHT, HALF), [(LOWER, "[1/2, 3/4]"), (RIGHT, "[1/2, 1/2]")]),
        ]
        for place, expected in rows:
            told = sources(place=place, floor=floor)
            self.assertIs(told.__class__, list)
            self.assertEqual(texts(told), expected, place)

    def test_a_place_on_a_wall(self):
        floor = pair_floor(walls=[MIDDLE])
        place = (MIDDLE, HALF)
        self.assertEqual(texts(reached(floor, place)), [(MIDDLE, "[1/2, 1/2]")])
        self.assertEqual(texts(sources(floor, place)), [(MIDDLE, "[1/2, 1/2]")])
        self.assertEqual(can_reach(floor, place, place, (MIDDLE, Ratio(1, 3)), (UPPER, HALF)), [True, False, False])
        self.assertEqual(can_reach(floor, (LOW, HALF), place), [False])
        self.assertEqual(texts(reached(floor, (LOW, Ratio(1, 4)))), [(LOW, "[1/4, 1/4]"), (TOP, "[3/4, 1)")])

    def test_goals_in_their_order(self):
        floor = pair_floor()
        start = (LOW, HALF)
        goals = [(UPPER, Ratio(1, 4)), (UPPER, Ratio(3, 4)), (MIDDLE, HALF), (TOP, HALF), start, (UPPER, HALF)]
        told = can_reach(floor, start, *goals)
        self.assertIs(told.__class__, list)
        self.assertEqual(told, [True, False, True, False, True, True])
        self.assertTrue(all(value is True or value is False for value in told))
        self.assertEqual(can_reach(floor, start, *goals[::-1]), told[::-1])
        self.assertEqual(can_reach(floor, start), [])
        self.assertEqual(can_reach(floor, start, goals[0], goals[0]), [True, True])

    def test_round_a_corner(self):
        first, second, third, fourth = HELD_LOOP
        outer = {side: str(told) for side, told in reached(held_floor(), (first, HALF))}
        self.assertEqual([outer[side] for side in HELD_LOOP], ["[1/2, 1)", "[1/2, 1)", "(0, 1/2]", "(0, 1/2]"])
        # Each round leads from x to all from x / 64 to x / 4.
        floor = round_floor(QUARTER, HALVED, HALVED, QUARTER)
        told = {side: str(told) for side, told in reached(floor, (first, HALF))}
        self.assertEqual(told, {
            first: "(0, 1/8] [1/2, 1/2]", second: "(0, 1/8] [1/4, 1/2]", third: "[1/2, 1)", fourth: "[3/4, 1)",
        })

    def test_images_that_stay_apart(self):
        # Each round leads from x to all from 4x to 64x.
        first, second, third, fourth = HELD_LOOP
        floor = round_floor(ONE, TWO, TWO, ONE)
        told = dict(texts(reached(floor, (first, Ratio(1, 1024)))))
        self.assertEqual(told[first], "[1/1024, 1/1024] [1/256, 1)")
        self.assertEqual(told[second], "[1/512, 1/256] [1/128, 1)")

    def test_a_limit_that_is_not_reached(self):
        floor = hole_floor([QUARTER] * 4, [QUARTER, HALVED, HALVED, QUARTER])
        first = HOLE_LOOP[0]
        rows = [
            (HALF, "[1/2, 1/2] [21/32, 979/1008)"), (Ratio(9, 10), "(17/24, 979/1008)"),
            (Ratio(17, 24), "[17/24, 979/1008)"), (Ratio(1, 16), "[1/16, 1/16]"),
        ]
        for at, expected in rows:
            self.assertEqual(dict(texts(reached(floor, (first, at))))[first], expected)
        limit = (first, Ratio(979, 1008))
        self.assertEqual(can_reach(floor, (first, HALF), limit, (first, Ratio(978, 1008))), [False, True])
        self.assertFalse(has(sources(floor, limit), (first, HALF)))

    def test_one_tile(self):
        floor = Floor([Tile.box("a", (0, 0), (4, 4), ((1, 1), (1, 2)))])
        self.assertEqual(texts(reached(floor, (LOW, HALF))), [(LOW, "[1/2, 1/2]"), (MIDDLE, "[1/2, 1)")])
        self.assertEqual(texts(sources(floor, (LOW, HALF))), [(LOW, "[1/2, 1/2]")])

    def test_rows_are_new(self):
        floor = pair_floor()
        reached(floor, (LOW, HALF)).clear()
        self.assertEqual(len(reached(floor, (LOW, HALF))), 3)
        self.assertEqual(floor, pair_floor())


class LawTests(unittest.TestCase):
    """What holds on all floors, tried on floors by chance."""

    def test_rows(self):
        for chance, floor in floors_by_chance(1, 12):
            for _ in range(4):
                place = random_place(chance, floor)
                for told in (reached(floor, place), sources(floor, place)):
                    sides = [side for side, _ in told]
                    self.assertEqual(sides, sorted(set(sides)))
                    self.assertTrue(has(told, place))
                    self.assertTrue(all(told for _, told in told))
                    inside = Spread([Span.between(Ratio(0), Ratio(1))])
                    self.assertTrue(all(told.within(inside) for _, told in told))
                self.assertEqual(reached(floor, place), reached(floor, place))

    def test_closed_under_steps(self):
        for chance, floor in floors_by_chance(2, 24):
            model = Model(floor)
            for _ in range(3):
                rows = dict(reached(floor, (chance.choice(passed(floor)), Ratio(chance.randint(1, 12), 13))))
                for side in rows:
                    for other in floor.sides():
                        for part in rows[side].walk():
                            there = span_of(model.step(side, other, ends(part)))
                            self.assertTrue(there is None or Spread([there]).within(rows.get(other, Spread())))

    def test_nothing_else_is_reached(self):
        """What steps alone lead to is nearly all."""
        whole = 0
        for chance, floor in floors_by_chance(3, 16, 2):
            model = Model(floor)
            place = (chance.choice(passed(floor)), Ratio(chance.randint(1, 12), 13))
            found = {place[0]: Spread([Span.only(place[1])])}
            fresh = dict(found)
            for _ in range(60):
                before, fresh = fresh, {}
                for side, told in before.items():
                    for other in floor.sides():
                        spans = [span_of(model.step(side, other, ends(part))) for part in told.walk()]
                        news = Spread([part for part in spans if part is not None]) - found.get(other, Spread())
                        if news:
                            found[other] = found.get(other, Spread()) | news
                            fresh[other] = fresh.get(other, Spread()) | news
            rows = dict(reached(floor, place))
            self.assertEqual(sorted(rows), sorted(found))
            for side in rows:
                self.assertTrue(found[side].within(rows[side]))
                for part in (rows[side] - found[side]).walk():
                    self.assertTrue((part.high - part.low).is_below(Ratio(1, 50)), (place, side, str(part)))
            whole += rows == found
        self.assertGreater(whole, 3)

    def test_sources_and_reached(self):
        yes = no = 0
        for chance, floor in floors_by_chance(4, 24):
            places = [random_place(chance, floor) for _ in range(3)]
            places += [(chance.choice(passed(floor)), Ratio(chance.randint(1, 6), 7)) for _ in range(4)]
            onward = [reached(floor, place) for place in places]
            back = [sources(floor, place) for place in places]
            for one, place in enumerate(places):
                answers = [has(onward[one], other) for other in places]
                self.assertEqual([has(rows, place) for rows in back], answers)
                self.assertEqual(can_reach(floor, place, *places), answers)
                self.assertIs(answers[one], True)
                yes, no = yes + sum(answers), no + len(answers) - sum(answers)
        self.assertGreater(min(yes, no), 100)

    def test_each_end_is_told_rightly(self):
        """The sources of places at the ends of what is reached, and just beyond them."""
        for chance, floor in floors_by_chance(5, 16):
            place = (chance.choice(passed(floor)), Ratio(chance.randint(1, 12), 13))
            for side, told in reached(floor, place):
                for part in told.walk():
                    step = Ratio(1, 10 ** 6)
                    for at in (part.low, part.high, part.low - step, part.high + step, part.simplest()):
                        if 0 < at.top < at.bottom and chance.random() < 0.2:
                            self.assertIs(has(sources(floor, (side, at)), place), at in told)

    def test_what_is_reached_from_a_reached_place_is_reached(self):
        for chance, floor in floors_by_chance(6, 16):
            place = (chance.choice(passed(floor)), Ratio(chance.randint(1, 12), 13))
            rows = dict(reached(floor, place))
            for side in chance.sample(sorted(rows), min(4, len(rows))):
                part = chance.choice(rows[side].spans())
                for other, told in reached(floor, (side, part.simplest())):
                    self.assertTrue(told.within(rows.get(other, Spread())))

    def test_turned(self):
        for chance, floor in floors_by_chance(7, 12):
            for _ in range(3):
                place = random_place(chance, floor)
                self.assertEqual(reached(turned(floor), place), sources(floor, place))
                self.assertEqual(sources(turned(floor), place), reached(floor, place))

    def test_walls_only_take_away(self):
        less = 0
        for chance, floor in floors_by_chance(8, 16):
            place = (chance.choice(passed(floor)), Ratio(chance.randint(1, 12), 13))
            before = dict(reached(floor, place))
            sides = [side for side in shared(floor) if side not in floor.walls()]
            for side in chance.sample(sides, min(3, len(sides))):
                barred = walled(floor, side)
                after = dict(reached(barred, place))
                self.assertTrue(all(told.within(before.get(other, Spread())) for other, told in after.items()))
                less += after != before
                if side != place[0]:
                    self.assertNotIn(side, after)
                self.assertEqual(dict(reached(opened(barred, side), place)), before)
        self.assertGreater(less, 10)

    def test_parting_and_joining_change_nothing_on_the_other_sides(self):
        many = 0
        for chance, floor in floors_by_chance(9, 24):
            for name in floor.names():
                corners = floor.tile(name).corners
                try:
                    begin, end = chance.sample(corners, 2)
                    apart = parted(floor, name, begin, end, "one", "two")
                except (InvalidChord, TooMany):
                    continue
                many += 1
                chord = tuple(sorted((begin, end)))
                place = (chance.choice(passed(floor)), Ratio(chance.randint(1, 12), 13))
                for ask in (reached, sources):
                    rows = [row for row in ask(apart, place) if row[0] != chord]
                    self.assertEqual(rows, ask(floor, place))
                again = joined(apart, "two", "one", name)
                self.assertEqual(reached(again, place), reached(floor, place))
        self.assertGreater(many, 10)

    def test_joining(self):
        many = 0
        for seed in range(20):
            chance = Random(seed)
            floor = random_floor(chance, 3, 2, most=chance.choice([2, 5]), steady=99)
            tiles = floor.tiles()
            # Neighbours get the same winds, so that they can be joined.
            tiles[1] = tiles[1].with_winds(*tiles[0].winds)
            floor = Floor(tiles)
            try:
                one = joined(floor, "a", "b", "ab")
            except NotJoined:
                continue
            many += 1
            between = [side for side in floor.sides() if floor.tiles_at(side) == ["a", "b"]]
            for _ in range(3):
                place = (chance.choice([side for side in floor.sides() if side not in between]), HALF)
                rows = [row for row in reached(floor, place) if row[0] not in between]
                self.assertEqual(rows, reached(one, place))
        self.assertGreater(many, 15)


class SplitTests(unittest.TestCase):
    def test_many_rounds(self):
        """Sixteen tiles with eight sides each, whose winds go round nine corners."""
        floor = random_floor(Random(4), 4, 4, split=True, most=9, steady=999)
        place = (passed(floor)[7], HALF)
        rows = reached(floor, place)
        side, told = rows[len(rows) // 2]
        self.assertTrue(has(sources(floor, (side, told.spans()[0].simplest())), place))
        self.assertEqual(spread(str(told)), told)


if __name__ == "__main__":
    unittest.main()
