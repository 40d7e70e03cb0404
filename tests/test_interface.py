"""The names, parameters and homes of all that the document's interface lists."""

import doctest
import inspect
import unittest
from importlib import import_module
from pathlib import Path

from kit import HALF, HELD_LOOP, LOW, UPPER, held_floor, pair_floor

from gustfloor.desk import Desk
from gustfloor.hall import Hall
from gustfloor.papers import Barred, Resting, Rolling, Way
from gustfloor.ratios import Ratio
from gustfloor.rounds import Round
from gustfloor.spans import Span, Spread
from gustfloor.tiles import Tile

# For each module its functions, and its classes with the parameters of their constructors.
LISTED = {
    "ratios": {"Ratio": "top, bottom=1"},
    "spans": {"Span": "low, high, *, has_low=True, has_high=True", "Spread": "spans=()"},
    "planes": {"is_name": "value", "is_point": "value", "is_wind": "value", "cross": "one, other"},
    "tiles": {"Tile": "name, corners, winds"},
    "floors": {"Floor": "tiles, walls=()"},
    "changes": {
        "turned": "floor", "with_winds": "floor, name, first, second",
        "parted": "floor, name, begin, end, one, other", "joined": "floor, one, other, name",
        "walled": "floor, side", "opened": "floor, side",
    },
    "steps": {"next_sides": "floor, side", "step": "floor, side, other, span", "back_step": "floor, side, other, span"},
    "rounds": {"rounds": "floor", "Round": "floor, sides"},
    "reaching": {"reached": "floor, place", "sources": "floor, place", "can_reach": "floor, start, *goals"},
    "ways": {
        "is_piece": "floor, one, other", "is_way": "floor, value", "fewest": "floor, start, goal",
        "find_way": "floor, start, goal, *, most=400",
    },
    "papers": {
        "Paper": "floor, start", "Way": "floor, start, goal, places", "Barred": "floor, start, goal, rows",
        "Rolling": "floor, start, places, loop, span", "Resting": "floor, start, rows",
    },
    "deciding": {
        "decide": "floor, start, goal, *, most=400", "decide_rolling": "floor, start", "unlike": "one, other, places",
    },
    "texts": {
        "side_text": "side", "place_text": "place", "floor_text": "floor", "way_text": "places", "read_side": "text",
        "read_place": "text", "read_floor": "text", "read_way": "text", "chart": "floor",
    },
    "hall": {"Hall": "floor, *, limit=20"},
    "pages": {"write_page": "hall", "read_page": "text"},
    "desk": {"Desk": "hall"},
}
# For each class its methods with their parameters, and its properties.
METHODS = {
    ("ratios", "Ratio"): ({"read": "text", "over": "other", "is_below": "other"}, ["top", "bottom"]),
    ("spans", "Span"): (
        {"only": "ratio", "between": "low, high", "simplest": ""}, ["low", "high", "has_low", "has_high"],
    ),
    ("spans", "Spread"): ({"spans": "", "walk": "", "of": "*spans", "within": "other"}, []),
    ("tiles", "Tile"): (
        {
            "sides": "", "lets_in": "side", "with_name": "name", "with_winds": "first, second", "turned": "",
            "box": "name, low, high, winds",
        },
        ["label", "corners", "winds"],
    ),
    ("floors", "Floor"): (
        {
            "tiles": "", "names": "", "walls": "", "sides": "", "tile": "name", "kind": "side", "tiles_at": "side",
            "into": "side", "is_place": "value", "point": "place",
        },
        [],
    ),
    ("rounds", "Round"): (
        {"image": "span", "sweep": "span", "leads_into_itself": "span", "begun_at": "side"}, ["loop", "room", "kept"],
    ),
    ("papers", "Paper"): ({"holds": "", "told": ""}, ["floor", "start"]),
    ("papers", "Way"): ({"places": "", "holds": "", "told": ""}, ["goal"]),
    ("papers", "Barred"): ({"rows": "", "holds": "", "told": ""}, ["goal"]),
    ("papers", "Rolling"): ({"places": "", "holds": "", "told": ""}, ["loop", "span"]),
    ("papers", "Resting"): ({"rows": "", "holds": "", "told": ""}, []),
    ("hall", "Hall"): (
        {
            "set_limit": "value", "apply": "*deeds", "undo": "", "redo": "", "history": "", "marks": "",
            "place": "name", "asked": "one, other", "kept_pairs": "", "twin": "",
        },
        ["floor", "limit", "busy", "computed"],
    ),
    ("desk", "Desk"): ({"say": "line", "__call__": "line", "hall": "", "log": ""}, []),
}
# For each class the special methods that its operators, truth, length and texts need.
SPECIAL = {
    ("ratios", "Ratio"): "__add__ __sub__ __mul__ __neg__ __eq__ __bool__ __str__ __repr__",
    ("spans", "Span"): "__contains__ __eq__ __str__ __repr__",
    ("spans", "Spread"): "__or__ __and__ __sub__ __contains__ __len__ __bool__ __eq__ __str__ __repr__",
    ("tiles", "Tile"): "__eq__ __len__ __repr__",
    ("floors", "Floor"): "__contains__ __len__ __eq__ __repr__",
    ("rounds", "Round"): "__len__ __repr__",
    ("papers", "Paper"): "__bool__ __repr__",
    ("hall", "Hall"): "__contains__ __len__ __eq__ __repr__",
    ("desk", "Desk"): "__call__ __len__ __repr__",
}


def listed(module, name):
    return getattr(import_module(f"gustfloor.{module}"), name)


def parameters(call, *, bound=False):
    """The parameters of a call, without the own object of a method, as the document writes them."""
    text = str(inspect.signature(call))[1:-1]
    return text.removeprefix("self").removeprefix(", ") if bound else text


class InterfaceTests(unittest.TestCase):
    def test_modules(self):
        files = {path.stem for path in Path(__file__).parent.parent.joinpath("gustfloor").glob("*.py")}
        self.assertTrue({"errors", *LISTED} <= files)

    def test_functions_and_classes(self):
        for module, names in LISTED.items():
            for name, text in names.items():
                thing = listed(module, name)
                self.assertEqual((thing.__module__, thing.__name__), (f"gustfloor.{module}", name))
                self.assertEqual(parameters(thing), text, name)

    def test_methods_and_properties(self):
        for (module, name), (methods, properties) in METHODS.items():
            kind = listed(module, name)
            for method, text in methods.items():
                self.assertIn(method, vars(kind), name)
                self.assertEqual(parameters(getattr(kind, method), bound=True), text, (name, method))
            for name_of_property in properties:
                self.assertIsInstance(vars(kind)[name_of_property], property)

    def test_special_methods(self):
        for (module, name), words in SPECIAL.items():
            for word in words.split(" "):
                self.assertIn(word, vars(listed(module, name)), name)

    def test_static_and_class_methods(self):
        for kind, name, expected in (
            (Ratio, "read", classmethod), (Span, "only", staticmethod), (Span, "between", staticmethod),
            (Spread, "of", classmethod), (Tile, "box", staticmethod),
        ):
            self.assertIsInstance(vars(kind)[name], expected)

    def test_class_values(self):
        values = [
            ("tiles", "Tile", "MOST", 8), ("floors", "Floor", "MOST", 16), ("hall", "Hall", "MOST", 40),
            ("papers", "Paper", "KIND", "open"), ("papers", "Way", "KIND", "way"),
            ("papers", "Barred", "KIND", "barred"), ("papers", "Rolling", "KIND", "rolls"),
            ("papers", "Resting", "KIND", "rests"),
        ]
        for module, name, word, value in values:
            self.assertEqual(vars(listed(module, name))[word], value)


def call_rows():
    """Rows of a call, its arguments by name in the order of the parameters, and a text of the result."""
    start, near = (LOW, HALF), (UPPER, Ratio(1, 4))
    floor, winds = pair_floor(), ((1, 1), (1, 2))
    held = Round(held_floor(), HELD_LOOP)
    hall = Hall(floor)
    hall.apply(("mark", "m", start), ("mark", "n", near))
    tile = floor.tile("a")
    one = Span.only(HALF)
    rows = [
        (Ratio, {"top": 1, "bottom": 2}), (HALF.over, {"other": HALF}), (HALF.is_below, {"other": HALF}),
        (Ratio.read, {"text": "1/2"}), (Span, {"low": HALF, "high": Ratio(1)}), (Span.only, {"ratio": HALF}),
        (Span.between, {"low": HALF, "high": Ratio(1)}), (Spread, {"spans": [one]}),
        (Spread([one]).within, {"other": Spread()}),
        (Tile.box, {"name": "c", "low": (0, 0), "high": (4, 4), "winds": winds}),
        (Tile, {"name": "c", "corners": [(0, 0), (4, 0), (0, 4)], "winds": winds}), (tile.lets_in, {"side": LOW}),
        (tile.with_name, {"name": "c"}), (tile.with_winds, {"first": (1, 1), "second": (1, 3)}),
        (floor.__class__, {"tiles": floor.tiles(), "walls": [((4, 0), (4, 4))]}), (floor.tile, {"name": "a"}),
        (floor.kind, {"side": LOW}), (floor.tiles_at, {"side": LOW}), (floor.into, {"side": LOW}),
        (floor.is_place, {"value": start}), (floor.point, {"place": start}),
        (Round, {"floor": held_floor(), "sides": HELD_LOOP}), (held.image, {"span": one}), (held.sweep, {"span": one}),
        (held.leads_into_itself, {"span": one}), (held.begun_at, {"side": HELD_LOOP[1]}), (hall.place, {"name": "m"}),
        (hall.asked, {"one": "m", "other": "n"}), (hall.set_limit, {"value": 5}), (Desk, {"hall": hall}),
        (Desk(hall).say, {"line": "tiles"}), (Desk(hall), {"line": "tiles"}), (Hall, {"floor": floor}),
        (Way, {"floor": floor, "start": start, "goal": start, "places": [start]}),
        (Barred, {"floor": floor, "start": start, "goal": near, "rows": []}),
        (Rolling, {"floor": floor, "start": start, "places": [start], "loop": (), "span": one}),
        (Resting, {"floor": floor, "start": start, "rows": []}),
    ]
    given = {
        "floor": floor, "side": LOW, "other": ((4, 0), (4, 4)), "span": one, "place": start, "start": start,
        "goal": near, "value": [start], "text": "0,0:4,0", "places": [start, near], "hall": hall, "name": "a",
        "first": (1, 1), "second": (1, 3), "begin": (0, 4), "end": (4, 0),
    }
    special = {
        "cross": {"one": (1, 2), "other": (3, 4)}, "is_piece": {"one": start, "other": near},
        "unlike": {"one": floor, "other": floor}, "read_place": {"text": "0,0:4,0@1/2"},
        "read_way": {"text": "0,0:4,0@1/2\n"}, "read_floor": {"text": "tile a 0,0 4,0 0,4 | 1,1 1,2\n"},
        "read_page": {"text": "tile a 0,0 4,0 0,4 | 1,1 1,2\n"}, "parted": {"one": "c", "other": "d"},
        "walled": {"side": ((4, 0), (4, 4))}, "place_text": {"place": start},
    }
    for module, names in LISTED.items():
        for name, text in names.items():
            if name[0].islower() and name not in ("joined", "opened", "can_reach"):
                words = [word for word in text.split(", *")[0].split(", ")]
                rows.append((listed(module, name), {word: {**given, **special.get(name, {})}[word] for word in words}))
    return rows


class CallTests(unittest.TestCase):
    """Each call by position and by name, in any order, with the defaults left out."""

    def told(self, value):
        return repr(list(value)) if inspect.isgenerator(value) else repr(value)

    def test_by_position_and_by_name(self):
        rows = call_rows()
        self.assertGreater(len(rows), 60)
        for call, given in rows:
            expected = self.told(call(*given.values()))
            self.assertEqual(self.told(call(**given)), expected)
            self.assertEqual(self.told(call(**dict(reversed(given.items())))), expected)
            first, *others = given
            self.assertEqual(self.told(call(given[first], **{word: given[word] for word in others})), expected)

    def test_what_stands_behind_a_star(self):
        start, floor = (LOW, HALF), pair_floor()
        for call in (listed("ways", "find_way"), listed("deciding", "decide")):
            self.assertRaises(TypeError, call, floor, start, start, 400)
            expected = self.told(call(floor, start, start))
            self.assertEqual(self.told(call(most=3, goal=start, start=start, floor=floor)), expected)
        self.assertRaises(TypeError, Hall, floor, 20)
        self.assertRaises(TypeError, Span, HALF, HALF, True)


class ReadmeTests(unittest.TestCase):
    def test_examples(self):
        """The examples of the README, each one as it is shown."""
        text = Path(__file__).parent.parent.joinpath("README.md").read_text()
        blocks = [block.split("```")[0] for block in text.split("```python\n")[1:]]
        test = doctest.DocTestParser().get_doctest("\n".join(blocks), {}, "README", None, 0)
        self.assertGreater(len(test.examples), 20)
        self.assertEqual(doctest.DocTestRunner(verbose=False).run(test).failed, 0)


if __name__ == "__main__":
    unittest.main()
