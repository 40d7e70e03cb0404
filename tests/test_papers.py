import unittest
from random import Random

from kit import (
    ANY, HALF, HELD_HOLE, HELD_LOOP, HOLE_LOOP, LEFT, LOW, MIDDLE, NO_PLACES, RIGHT, TOP, UPPER, held_floor,
    hole_floor, pair_floor, random_floor, round_floor, span, spread,
)

from gustfloor import papers
from gustfloor.changes import turned, walled
from gustfloor.papers import Barred, Paper, Resting, Rolling, Way
from gustfloor.ratios import Ratio
from gustfloor.reaching import reached
from gustfloor.rounds import Round, rounds
from gustfloor.spans import Span, Spread

START, GOAL, FAR = (LOW, HALF), (UPPER, Ratio(1, 4)), (UPPER, Ratio(3, 4))
PLACES = [START, (MIDDLE, Ratio(3, 4)), GOAL]
ROWS = [(LOW, spread("[1/2, 1/2]")), (MIDDLE, spread("[1/2, 1)")), (UPPER, spread("(0, 1/2]"))]
FIRST = HELD_LOOP[0]
ALL = Span.between(Ratio(0), Ratio(1))
QUARTER = ((1, 4), (1, 2))


def changed(values, at, value):
    """A list with another item in the place of one of them."""
    return values[:at] + [value] + values[at + 1:]


def way(floor=None, start=START, goal=GOAL, places=PLACES):
    return Way(floor or pair_floor(), start, goal, places)


def barred(floor=None, start=START, goal=FAR, rows=ROWS):
    return Barred(floor or pair_floor(), start, goal, rows)


def rolling(floor=None, start=(FIRST, HALF), places=((FIRST, HALF),), loop=HELD_LOOP, held=ALL):
    return Rolling(floor or held_floor(), start, list(places), loop, held)


def resting(floor=None, start=START, rows=ROWS):
    return Resting(floor or pair_floor(), start, rows)


class ShapeTests(unittest.TestCase):
    def test_interface(self):
        methods = {
            "Paper": ["KIND", "__init__", "__bool__", "__repr__", "floor", "holds", "start", "told"],
            "Way": ["KIND", "__init__", "__bool__", "goal", "holds", "places", "told"],
            "Barred": ["KIND", "__init__", "goal", "holds", "rows", "told"],
            "Rolling": ["KIND", "__init__", "__bool__", "holds", "loop", "places", "span", "told"],
            "Resting": ["KIND", "__init__", "holds", "rows", "told"],
        }
        for name, listed in methods.items():
            kind = getattr(papers, name)
            self.assertEqual(kind.__module__, "gustfloor.papers")
            self.assertEqual(kind.__bases__, (object,) if name == "Paper" else (Paper,))
            for method in listed:
                self.assertIn(method, vars(kind), name)

    def test_the_base_class(self):
        for start in ANY + [START]:
            paper = Paper(pair_floor(), start)
            self.assertEqual((paper.floor, paper.start), (pair_floor(), start))
            self.assertEqual((paper.told(), repr(paper)), ("open", "Paper(open)"))
            self.assertIs(paper.holds(), False)
            self.assertIs(bool(paper), False)
        self.assertEqual(Paper(start=3, floor=held_floor()).start, 3)

    def test_kinds(self):
        kinds = [(Paper, "open"), (Way, "way"), (Barred, "barred"), (Rolling, "rolls"), (Resting, "rests")]
        for kind, word in kinds:
            self.assertEqual(kind.KIND, word)

    def test_told(self):
        rows = [
            (way(), "way 2", True), (way(places=[START]), "way 0", True), (way(places=[]), "way -1", True),
            (way(places=(1, 2)), "way 1", True), (barred(), "barred 3", False), (barred(rows=[]), "barred 0", False),
            (rolling(), "rolls 4", True), (rolling(loop=()), "rolls 0", True), (rolling(loop=(1, 2)), "rolls 2", True),
            (rolling(loop=list(HELD_LOOP)), "rolls 0", True), (rolling(loop=None), "rolls 0", True),
            (rolling(loop="abc"), "rolls 0", True), (resting(), "rests 3", False),
            (resting(rows=(None,)), "rests 1", False),
        ]
        for paper, told, truth in rows:
            self.assertEqual((paper.told(), repr(paper)), (told, f"Paper({told})"))
            self.assertIs(bool(paper), truth)
            self.assertEqual(told.split(" ")[0], paper.KIND)

    def test_by_name(self):
        floor = pair_floor()
        self.assertTrue(Way(places=PLACES, goal=GOAL, start=START, floor=floor).holds())
        self.assertTrue(Barred(rows=ROWS, goal=FAR, start=START, floor=floor).holds())
        self.assertTrue(Resting(rows=ROWS, start=START, floor=floor).holds())
        place = (FIRST, HALF)
        self.assertTrue(Rolling(span=ALL, loop=HELD_LOOP, places=[place], start=place, floor=held_floor()).holds())


class KeptTests(unittest.TestCase):
    """What a paper is given is kept and told as it was passed, and stays so."""

    def test_properties(self):
        for value in ANY + [START, HELD_LOOP, ALL]:
            floor = pair_floor()
            for paper in (way(floor, value, value), barred(floor, value, value)):
                self.assertEqual((paper.floor, paper.start, paper.goal), (floor, value, value))
            paper = rolling(floor, value, [], value, value)
            self.assertEqual((paper.floor, paper.start, paper.loop, paper.span), (floor, value, value, value))
            self.assertEqual(resting(floor, value).start, value)

    def test_lists_of_any_values(self):
        for given in ([], ANY, tuple(ANY), [[1, [2, (3, [4])]]], [START], ROWS):
            floor = pair_floor()
            told = [way(places=given), barred(rows=given), Rolling(floor, 1, given, 2, 3), resting(rows=given)]
            for paper in told:
                values = paper.places() if paper.KIND in ("way", "rolls") else paper.rows()
                self.assertIs(values.__class__, list)
                self.assertEqual(values, list(given))

    def test_given_lists_are_copied(self):
        places, rows, inner = list(PLACES), list(ROWS), [1, [2]]
        told = [way(places=places), rolling(places=places), barred(rows=rows), resting(rows=rows)]
        nested = [way(places=[inner, (inner,)]), rolling(places=[inner, (inner,)])]
        nested_rows = [barred(rows=[inner, (inner,)]), resting(rows=[inner, (inner,)])]
        kept = [way(start=inner, goal=(inner,)), barred(start=inner, goal=(inner,)), resting(start=inner)]
        round_paper = rolling(start=inner, loop=(inner,), held=inner)
        places.clear()
        rows.pop()
        inner[1].append(3)
        inner.append(4)
        self.assertEqual([told[0].places(), told[1].places()], [PLACES, PLACES])
        self.assertEqual([told[2].rows(), told[3].rows()], [ROWS, ROWS])
        for paper in nested:
            self.assertEqual(paper.places(), [[1, [2]], ([1, [2]],)])
        for paper in nested_rows:
            self.assertEqual(paper.rows(), [[1, [2]], ([1, [2]],)])
        for paper in kept:
            self.assertEqual(paper.start, [1, [2]])
        self.assertEqual([paper.goal for paper in kept[:2]], [([1, [2]],)] * 2)
        self.assertEqual((round_paper.loop, round_paper.span), (([1, [2]],), [1, [2]]))

    def test_returned_lists_are_new(self):
        for paper in (way(places=[[1], ([2],)]), rolling(places=[[1], ([2],)])):
            told = paper.places()
            told[0].append(5)
            told[1][0].append(5)
            told.pop()
            self.assertEqual(paper.places(), [[1], ([2],)])
        for paper in (barred(rows=[[LOW, Spread()], ROWS[0]]), resting(rows=[[LOW, Spread()], ROWS[0]])):
            told = paper.rows()
            told[0].append(5)
            told.pop()
            self.assertEqual(paper.rows(), [[LOW, Spread()], ROWS[0]])
        paper = rolling(start=[1], loop=[2], held=[3])
        for told in (paper.start, paper.loop, paper.span):
            told.append(4)
        self.assertEqual((paper.start, paper.loop, paper.span), ([1], [2], [3]))
        for paper in (way(goal=([1],)), barred(goal=([1],))):
            paper.goal[0].append(2)
            self.assertEqual(paper.goal, ([1],))

    def test_properties_are_not_assigned(self):
        names = {"start": way(), "floor": way(), "goal": barred(), "loop": rolling(), "span": rolling()}
        for name, paper in names.items():
            with self.assertRaises(AttributeError):
                setattr(paper, name, None)


class WayTests(unittest.TestCase):
    def test_right_papers(self):
        self.assertIs(way().holds(), True)
        self.assertIs(way(places=tuple(PLACES)).holds(), True)
        for side in pair_floor().sides():
            place = (side, HALF)
            self.assertIs(way(None, place, place, [place]).holds(), True)
            self.assertIs(way(pair_floor(walls=[MIDDLE]), place, place, [place]).holds(), True)

    def test_one_thing_changed(self):
        wrong = [
            way(start=(LOW, Ratio(1, 3))), way(start=PLACES[1]), way(start=GOAL), way(goal=FAR), way(goal=PLACES[1]),
            way(goal=START), way(floor=pair_floor(walls=[MIDDLE])), way(floor=turned(pair_floor())),
            way(floor=held_floor()), way(places=[]), way(places=PLACES[:2]), way(places=PLACES[1:]),
            way(places=PLACES[::-1]), way(places=PLACES[:1]), way(places=[START, GOAL]),
            way(places=changed(PLACES, 1, (MIDDLE, Ratio(1, 4)))), way(places=changed(PLACES, 1, (TOP, Ratio(3, 4)))),
            way(places=changed(PLACES, 0, (LOW, Ratio(1, 3)))), way(places=changed(PLACES, 2, (UPPER, Ratio(1, 3)))),
            way(places=PLACES + [GOAL]), way(places=[START] + PLACES), way(start=FAR, goal=FAR, places=[START]),
        ]
        for paper in wrong:
            self.assertIs(paper.holds(), False, (paper, paper.start, paper.goal, paper.places()))

    def test_any_values(self):
        for value in NO_PLACES:
            self.assertIs(way(start=value).holds(), False)
            self.assertIs(way(goal=value).holds(), False)
            self.assertIs(way(places=[value]).holds(), False)
            self.assertIs(way(start=value, goal=value, places=[value]).holds(), False)
            for at in range(3):
                self.assertIs(way(places=changed(PLACES, at, value)).holds(), False)

    def test_places_that_are_only_equal(self):
        """True equals 1 in Python, but it is no number here."""
        place, near = (LOW, HALF), (((False, 0), (4, 0)), HALF)
        self.assertEqual(place, near)
        self.assertIs(way(None, place, place, [place]).holds(), True)
        for at in range(3):
            given = changed([place] * 3, at, near)
            self.assertIs(way(None, given[0], given[1], [given[2]]).holds(), False)


class BarredTests(unittest.TestCase):
    def test_right_papers(self):
        right = [
            barred(), barred(rows=tuple(ROWS)), barred(rows=ROWS[::-1]), barred(goal=(LEFT, HALF)),
            barred(goal=(LOW, Ratio(1, 3))), barred(goal=(RIGHT, HALF)), barred(start=GOAL),
            barred(start=GOAL, rows=ROWS[2:]), barred(start=GOAL, goal=START, rows=ROWS[2:]),
            # More than can be reached, and all but one place of a side.
            barred(rows=changed(ROWS, 2, (UPPER, spread("(0, 2/3]")))),
            barred(rows=changed(ROWS, 2, (UPPER, spread("(0, 3/4) (3/4, 1)")))),
            barred(rows=ROWS + [(TOP, spread("[1/3, 1/2] (3/4, 1)"))]),
            # A spread may be empty, and ratios that no place has are of no effect.
            barred(rows=ROWS + [(TOP, Spread())]), barred(rows=ROWS + [(LEFT, Spread()), (RIGHT, Spread())]),
            barred(rows=changed(ROWS, 0, (LOW, spread("[-7, 0] [1/2, 1/2] [1, 9]")))),
            barred(rows=changed(ROWS, 1, (MIDDLE, spread("[-2, -1] [1/2, 5]")))),
            barred(rows=changed(ROWS, 2, (UPPER, spread("[-3, 1/2] [1, 1]")))),
            barred(rows=ROWS + [(LEFT, spread("[-5, 0] [1, 6/5]"))]),
            # A wall.
            barred(pair_floor(walls=[MIDDLE]), (MIDDLE, HALF), GOAL, [(MIDDLE, spread("[1/2, 1/2]"))]),
            barred(pair_floor(walls=[MIDDLE]), START, (MIDDLE, HALF), ROWS[:1]),
        ]
        for paper in right:
            self.assertIs(paper.holds(), True, (paper, paper.start, paper.goal, paper.rows()))

    def test_one_thing_changed(self):
        wrong = [
            barred(goal=GOAL), barred(goal=START), barred(start=(LOW, Ratio(1, 3))), barred(start=(TOP, HALF)),
            barred(start=FAR), barred(floor=turned(pair_floor())), barred(floor=held_floor()), barred(rows=[]),
            # Not closed: a row is missing, or it lacks some ratios.
            barred(rows=ROWS[:1]), barred(rows=ROWS[:2]), barred(rows=[ROWS[0], ROWS[2]]), barred(rows=ROWS[1:]),
            barred(rows=changed(ROWS, 1, (MIDDLE, spread("(1/2, 1)")))),
            barred(rows=changed(ROWS, 1, (MIDDLE, Spread()))), barred(rows=changed(ROWS, 2, (UPPER, Spread()))),
            barred(rows=changed(ROWS, 2, (UPPER, spread("(0, 1/2)")))),
            barred(rows=changed(ROWS, 2, (UPPER, spread("(0, 1/4) (1/4, 1/2]")))),
            barred(rows=changed(ROWS, 2, (UPPER, spread("[1/1000, 1/2]")))),
            barred(rows=changed(ROWS, 0, (LOW, spread("[1/4, 1/2]")))),
            barred(rows=changed(ROWS, 0, (LOW, spread("[1/2, 51/100]")))),
            barred(rows=ROWS + [(LEFT, spread("[1/2, 1/2]"))]),
            # The start or the goal.
            barred(rows=changed(ROWS, 0, (LOW, spread("(1/2, 3/4)")))), barred(rows=changed(ROWS, 0, (LOW, Spread()))),
            barred(rows=changed(ROWS, 2, (UPPER, spread("(0, 3/4]")))),
            # A side twice, a side of no floor, a side the other way round.
            barred(rows=ROWS + [ROWS[0]]), barred(rows=ROWS + [(LOW, Spread())]),
            barred(rows=[ROWS[1], ROWS[1], ROWS[0], ROWS[2]]), barred(rows=ROWS + [(FIRST, Spread())]),
            barred(rows=ROWS + [(TOP[::-1], Spread())]),
            # Rows that are no rows.
            barred(rows=changed(ROWS, 0, list(ROWS[0]))), barred(rows=changed(ROWS, 0, ROWS[0][::-1])),
            barred(rows=changed(ROWS, 0, ROWS[0] + (1,))), barred(rows=changed(ROWS, 0, (LOW,))),
            barred(rows=changed(ROWS, 0, (LOW, Span.only(HALF)))), barred(rows=changed(ROWS, 0, (LOW, "[1/2, 1/2]"))),
            barred(rows=changed(ROWS, 0, (LOW, [Span.only(HALF)]))), barred(rows=ROWS + [(TOP, None)]),
        ]
        for paper in wrong:
            self.assertIs(paper.holds(), False, (paper, paper.start, paper.goal, paper.rows()))

    def test_any_values(self):
        for value in ANY:
            self.assertIs(barred(rows=[value]).holds(), False)
            self.assertIs(barred(rows=ROWS + [value]).holds(), False)
            self.assertIs(barred(rows=ROWS + [(value, Spread())]).holds(), False)
            if not isinstance(value, Spread):
                self.assertIs(barred(rows=ROWS + [(TOP, value)]).holds(), False)
        for value in NO_PLACES:
            self.assertIs(barred(start=value).holds(), False)
            self.assertIs(barred(goal=value).holds(), False)


class RollingTests(unittest.TestCase):
    def test_right_papers(self):
        second = HELD_LOOP[1:] + HELD_LOOP[:1]
        places = [(FIRST, HALF), (HELD_LOOP[1], HALF)]
        right = [
            rolling(), rolling(held=Span.only(HALF)), rolling(held=span("[1/2, 3/4)")),
            rolling(held=span("(1/4, 1/2]")),
            rolling(places=places, loop=second), rolling(places=places, loop=second, held=Span.only(HALF)),
        ]
        for paper in right:
            self.assertIs(paper.holds(), True, (paper.loop, str(paper.span)))

    def test_one_thing_changed(self):
        places = [(FIRST, HALF), (HELD_LOOP[1], HALF)]
        wrong = [
            rolling(start=(FIRST, Ratio(1, 3))), rolling(start=(HELD_LOOP[1], HALF)), rolling(floor=pair_floor()),
            rolling(floor=turned(held_floor())), rolling(floor=walled(held_floor(), HELD_LOOP[2])),
            rolling(places=[]), rolling(places=[(FIRST, Ratio(1, 3))]), rolling(places=places),
            rolling(places=places[::-1]), rolling(places=places[:1] * 2),
            # A loop that is no round, that begins with another side, or that goes the other way round.
            rolling(loop=HELD_LOOP[1:]), rolling(loop=HELD_LOOP[1:] + HELD_LOOP[:1]), rolling(loop=HELD_LOOP[::-1]),
            rolling(loop=HELD_LOOP * 2), rolling(loop=()), rolling(loop=list(HELD_LOOP)), rolling(loop=None),
            rolling(loop=(FIRST, [1])),
            # A span that is none, that lacks the ratio, or that leaves the common part of the room and J.
            rolling(held=None), rolling(held=Spread([ALL])), rolling(held=HALF), rolling(held="(0, 1)"),
            rolling(held=span("(1/2, 1)")), rolling(held=span("[1/4, 1/3]")), rolling(held=span("[0, 1)")),
            rolling(held=span("(0, 1]")), rolling(held=span("[1/4, 2]")),
        ]
        for paper in wrong:
            self.assertIs(paper.holds(), False, (paper, paper.start, paper.places(), paper.loop, paper.span))

    def test_spans_that_do_not_lead_into_themselves(self):
        # Each round leads from x to all from x / 64 to x / 4, so no ratio can be kept.
        floor = round_floor(QUARTER, ((1, 2), (1, 1)), ((1, 2), (1, 1)), QUARTER)
        for held in ("[1/2, 1/2]", "(0, 1/2]", "(0, 1)", "[1/4, 3/4]"):
            self.assertIs(rolling(floor, held=span(held)).holds(), False, held)
        # The room and J have the ratios of (7/24, 1) in common, but from those below 5/8 each round leads down.
        floor, first = hole_floor(*HELD_HOLE), HOLE_LOOP[0]
        rows = [
            ("[5/8, 1)", True), ("(5/8, 1)", True), ("[5/8, 5/8]", True), ("[3/4, 4/5]", True), ("(9/16, 1)", False),
            ("[9/16, 5/8]", False), ("(1/2, 3/4)", False), ("[5/8, 1]", False), ("[9/16, 9/16]", False),
        ]
        for held, answer in rows:
            held = span(held)
            place = (first, held.simplest())
            self.assertIs(rolling(floor, place, [place], HOLE_LOOP, held).holds(), answer, str(held))

    def test_any_values(self):
        for value in ANY:
            self.assertIs(rolling(loop=value).holds(), False)
            self.assertIs(rolling(loop=(value,)).holds(), False)
            self.assertIs(rolling(loop=HELD_LOOP + (value,)).holds(), False)
            self.assertIs(rolling(loop=(value,) + HELD_LOOP[1:]).holds(), False)
            if value != Span.only(HALF):
                self.assertIs(rolling(held=value).holds(), False)
        for value in NO_PLACES:
            self.assertIs(rolling(start=value).holds(), False)
            self.assertIs(rolling(places=[value]).holds(), False)
            self.assertIs(rolling(start=value, places=[value]).holds(), False)
            self.assertIs(rolling(places=[(FIRST, HALF), value]).holds(), False)


class RestingTests(unittest.TestCase):
    def test_right_papers(self):
        right = [
            resting(), resting(rows=tuple(ROWS)), resting(rows=ROWS[::-1]), resting(start=GOAL),
            resting(start=GOAL, rows=ROWS[2:]), resting(rows=ROWS + [(TOP, Spread()), (RIGHT, spread("(0, 1/3]"))]),
            resting(rows=changed(ROWS, 0, (LOW, spread("[-7, 0] [1/2, 1/2] [1, 9]")))),
            resting(pair_floor(walls=[MIDDLE]), (MIDDLE, HALF), [(MIDDLE, spread("[1/2, 1/2]"))]),
        ]
        for paper in right:
            self.assertIs(paper.holds(), True, (paper, paper.start, paper.rows()))

    def test_one_thing_changed(self):
        wrong = [
            resting(start=(LOW, Ratio(1, 3))), resting(start=(TOP, HALF)), resting(floor=turned(pair_floor())),
            resting(floor=held_floor()), resting(rows=[]), resting(rows=ROWS[:2]), resting(rows=ROWS[1:]),
            resting(rows=changed(ROWS, 2, (UPPER, spread("(0, 1/2)")))), resting(rows=ROWS + [ROWS[0]]),
            resting(rows=ROWS + [(FIRST, Spread())]), resting(rows=changed(ROWS, 0, list(ROWS[0]))),
            resting(rows=changed(ROWS, 0, (LOW, Span.only(HALF)))), resting(rows=ROWS + [(TOP, None)]),
        ]
        for paper in wrong:
            self.assertIs(paper.holds(), False, (paper, paper.start, paper.rows()))

    def test_rows_that_a_kept_span_meets(self):
        floor = held_floor()
        start = (FIRST, HALF)
        rows = reached(floor, start)
        self.assertIs(resting(floor, start, rows).holds(), False)
        whole = [(side, spread("(0, 1)")) for side in floor.sides()]
        self.assertIs(resting(floor, start, whole).holds(), False)
        # From the side on the rim on which the ball comes to rest nothing can be reached.
        rim = [side for side, _ in rows if floor.kind(side) == "rest"][0]
        self.assertIs(resting(floor, (rim, HALF), [(rim, spread("(0, 1)"))]).holds(), True)
        empty = [(side, Spread()) for side in floor.sides() if side != rim]
        self.assertIs(resting(floor, (rim, HALF), [(rim, spread("(0, 1)")), *empty]).holds(), True)

    def test_any_values(self):
        for value in ANY:
            self.assertIs(resting(rows=[value]).holds(), False)
            self.assertIs(resting(rows=ROWS + [value]).holds(), False)
            self.assertIs(resting(rows=ROWS + [(value, Spread())]).holds(), False)
            if not isinstance(value, Spread):
                self.assertIs(resting(rows=ROWS + [(TOP, value)]).holds(), False)
        for value in NO_PLACES:
            self.assertIs(resting(start=value).holds(), False)

    def test_by_all_rounds(self):
        """On floors by chance, the same as by the kept span of each round, also of those that cross a tile twice."""
        told = {True: 0, False: 0}
        for seed in range(30):
            chance = Random(seed)
            floor = random_floor(chance, 2, chance.choice([2, 3]), most=chance.choice([2, 4, 9]), steady=99)
            kept = [(loop[0], Round(floor, loop).kept) for loop in rounds(floor)]
            kept = [(side, Spread([held])) for side, held in kept if held is not None]
            for side in chance.sample(floor.sides(), 6):
                start = (side, Ratio(chance.randint(1, 12), 13))
                rows = reached(floor, start)
                spreads = dict(rows)
                answer = not any(held & spreads.get(first, Spread()) for first, held in kept)
                self.assertIs(resting(floor, start, rows).holds(), answer)
                told[answer] += 1
        self.assertGreater(min(told.values()), 20)


if __name__ == "__main__":
    unittest.main()
