"""What several tests share: values of all kinds, a check of refusals, and floors."""

from gustfloor.errors import InvalidWinds, SplitSide
from gustfloor.floors import Floor
from gustfloor.ratios import Ratio
from gustfloor.spans import Span, Spread
from gustfloor.tiles import Tile

EAST = ((1, 1), (1, 2))
LETTERS = "abcdefghijklmnopqrstuvwxyz"
TILE = Tile.box("a", (0, 0), (4, 4), EAST)


def pair_floor(**more):
    """Two boxes beside one another, with winds to the north east."""
    return Floor([Tile.box("a", (0, 0), (4, 4), EAST), Tile.box("b", (4, 0), (8, 4), EAST)], **more)


# Values of all kinds that are no name, no point, no wind, no list, no side and no place.
STRANGE = [
    None, True, False, 0, 1, -3, 10 ** 100, "", "A", "a b", "\n", (), (1,), (1, 2, 3), ((),), (True, 0), (0, False),
    ("a", "b"), (None, None), ((0, 0),), ((0, 0), (4, 0), (4, 4)), Ratio(1, 2), Span.only(Ratio(1, 2)), Spread(),
    TILE, pair_floor(), (TILE, TILE), (Ratio(0), Ratio(1)), ((1, [2]), (3, 4)), ([0, 0], [4, 0]), ([], []),
]
LISTS = [[], [1], [0, 0], [1, 2], [(0, 0), (4, 0)], [[0, 0], [4, 0]]]
# Values that look like the side ((0, 0), (4, 0)) and are not.
NEAR_SIDES = [
    [(0, 0), (4, 0)], ([0, 0], [4, 0]), ([0, 0], (4, 0)), ((0, 0), [4, 0]), ((4, 0), (0, 0)), ((0, 0), (4, False)),
    ((False, 0), (4, 0)), ((0, 0), (4, 0), (4, 0)), ((0, 0),), (0, 0, 4, 0), "0,0:4,0", ((0, 0), (4, 0, 0)),
    ((0, 0), (4, 1)), ((0, 0), (0, 0)), ((0, 0), (3, 0)), ((Ratio(0), Ratio(0)), (Ratio(4), Ratio(0))),
]

ANY = STRANGE + LISTS + NEAR_SIDES
# The sides of the two boxes, and values that look like a place on them and are not.
HALF = Ratio(1, 2)
LEFT, LOW, TOP = ((0, 0), (0, 4)), ((0, 0), (4, 0)), ((0, 4), (4, 4))
MIDDLE = ((4, 0), (4, 4))
LOWER, UPPER, RIGHT = ((4, 0), (8, 0)), ((4, 4), (8, 4)), ((8, 0), (8, 4))
NO_PLACES = ANY + [
    [LOW, HALF], (LOW, Ratio(0)), (LOW, Ratio(1)), (LOW, Ratio(-1, 2)), (LOW, Ratio(3, 2)), (LOW, 1), (LOW, None),
    (LOW, "1/2"), (list(LOW), HALF), (LOW[::-1], HALF), (LOW,), (LOW, HALF, HALF), (((0, 0), (8, 0)), HALF), LOW, HALF,
]

NO_COUNTS = [-1, -10 ** 50, True, False, None, "3", "", (3,), [3], [], Ratio(3), Ratio(-1, 2), pair_floor()]


def refused(case, error, told, call, *args, **named):
    """Checks that a call raises just this error, with just these attributes behind one another."""
    with case.assertRaises(error) as caught:
        call(*args, **named)
    case.assertIs(caught.exception.__class__, error)
    case.assertEqual(caught.exception.code, error.__name__)
    attributes = [name for name in vars(caught.exception) if name != "code"]
    case.assertEqual(len(attributes), len(told))
    for name, value in zip(attributes, told):
        case.assertIs(getattr(caught.exception, name).__class__, value.__class__)
        case.assertEqual(repr(getattr(caught.exception, name)), repr(value))


def texts(rows):
    """Rows of sides and spreads, with the texts of the spreads."""
    return [(side, str(spread)) for side, spread in rows]


def span(text):
    """The span of a text."""
    low, high = text[1:-1].split(", ")
    return Span(Ratio.read(low), Ratio.read(high), has_low=text[0] == "[", has_high=text[-1] == "]")


def spread(text):
    """The spread of a text."""
    if text == "none":
        return Spread()
    parts = text.replace("]", "]|").replace(")", ")|").split("|")
    return Spread([span(part.strip()) for part in parts if part])


def held_floor():
    """The floor of the document in which four winds go round a corner."""
    return Floor([
        Tile.box("se", (0, -2), (2, 0), ((2, 1), (1, 1))),
        Tile.box("ne", (0, 0), (2, 2), ((-1, 2), (-1, 1))),
        Tile.box("nw", (-2, 0), (0, 2), ((-2, -1), (-1, -1))),
        Tile.box("sw", (-2, -2), (0, 0), ((1, -2), (1, -1))),
    ])


HELD_LOOP = (((0, 0), (2, 0)), ((0, 0), (0, 2)), ((-2, 0), (0, 0)), ((0, -2), (0, 0)))


def turned_winds(winds, times):
    """Winds turned to the left by so many quarters."""
    for _ in range(times):
        winds = tuple((-y, x) for x, y in winds)
    return winds


def round_floor(*factors):
    """Four boxes round the corner (0, 0), of which each one turns the ball to the left.

    Each carries it from the distance s from the corner to the distances from s * low to s * high; the factors are the
    pairs (low, high) of pairs (top, bottom), beginning with se.
    """
    boxes = [("se", (0, -2), (2, 0)), ("ne", (0, 0), (2, 2)), ("nw", (-2, 0), (0, 2)), ("sw", (-2, -2), (0, 0))]
    tiles = []
    for at, (name, low, high) in enumerate(boxes):
        tiles.append(Tile.box(name, low, high, turned_winds((factors[at][1], factors[at][0]), at)))
    return Floor(tiles)


def shrinking_floor():
    """Each piece round the corner (0, 0) leads to 990 up to 999 thousandths of the distance."""
    factor = ((99, 100), (999, 1000))
    return round_floor(factor, factor, factor, factor)


def shrunk(start, many):
    """A ratio to which so many pieces, a multiple of four, lead on the shrinking floor, but no fewer."""
    places = 10 ** 12
    return Ratio(places * start.top * 99 ** many // (start.bottom * 100 ** many) + 1, places)


def hole_floor(ways, corners):
    """Eight boxes round a hole, of which each second one turns the ball to the left.

    The ways are pairs (low, high) of pairs (top, bottom): the distance from the hole grows by a number between both.
    The corners likewise: the distance is multiplied by a number between both.
    """
    boxes = [
        ("south", (4, 0), (8, 4)), ("se", (8, 0), (12, 4)), ("east", (8, 4), (12, 8)), ("ne", (8, 8), (12, 12)),
        ("north", (4, 8), (8, 12)), ("nw", (0, 8), (4, 12)), ("west", (0, 4), (4, 8)), ("sw", (0, 0), (4, 4)),
    ]
    tiles = []
    for at, (name, low, high) in enumerate(boxes):
        if at % 2:
            winds = (corners[at // 2][1], corners[at // 2][0])
        else:
            winds = tuple((4 * bottom, -top) for top, bottom in reversed(ways[at // 2]))
        tiles.append(Tile.box(name, low, high, turned_winds(winds, at // 2)))
    return Floor(tiles)


HOLE_LOOP = (
    ((4, 0), (4, 4)), ((8, 0), (8, 4)), ((8, 4), (12, 4)), ((8, 8), (12, 8)), ((8, 8), (8, 12)), ((4, 8), (4, 12)),
    ((0, 8), (4, 8)), ((0, 4), (4, 4)),
)
# The ways and corners of a hole round which one can go for ever from the ratios of [5/8, 1) of its first side alone.
HELD_HOLE = (
    [((3, 8), (1, 1)), ((1, 8), (1, 1)), ((1, 4), (3, 8)), ((-1, 1), (-3, 8))],
    [((1, 1), (9, 8)), ((9, 8), (2, 1)), ((1, 1), (9, 8)), ((1, 1), (3, 2))],
)


def random_winds(chance, corners, most):
    """Two winds that suit a tile with these corners."""
    while True:
        winds = [(chance.randint(-most, most), chance.randint(-most, most)) for _ in range(2)]
        try:
            return Tile("a", corners, winds).winds
        except (InvalidWinds, SplitSide):
            pass


def random_floor(chance, width, height, *, split=False, most=6, steady=3):
    """Boxes in rows, skewed by chance, whose winds go round corners by turns; one of steady tiles has other winds."""
    xs, ys = [0], [0]
    for _ in range(width):
        xs.append(xs[-1] + 2 * chance.randint(1, 3))
    for _ in range(height):
        ys.append(ys[-1] + 2 * chance.randint(1, 3))
    up, across = chance.choice([(0, 1), (1, 0)])
    skew = chance.choice([(1, 0, 0, 1), (2, 1, 0, 1), (1, 0, -1, 2), (2, 1, 1, 2), (0, -1, 1, 0), (1, 2, -1, 1)])

    def skewed(pair):
        return (skew[0] * pair[0] + skew[1] * pair[1], skew[2] * pair[0] + skew[3] * pair[1])

    tiles = []
    for row in range(height):
        for column in range(width):
            low, high = (xs[column], ys[row]), (xs[column + 1], ys[row + 1])
            middle = ((low[0] + high[0]) // 2, (low[1] + high[1]) // 2)
            corners = [low, (high[0], low[1]), high, (low[0], high[1])]
            if split:
                corners = [
                    low, (middle[0], low[1]), (high[0], low[1]), (high[0], middle[1]), high, (middle[0], high[1]),
                    (low[0], high[1]), (low[0], middle[1]),
                ]
            corners = [skewed(corner) for corner in corners]
            if chance.randint(1, steady) == 1:
                winds = random_winds(chance, corners, most)
            else:
                first, second = (0, 0), (0, 0)
                while first[0] * second[1] - first[1] * second[0] <= 0:
                    first = (chance.randint(1, most), chance.randint(1, most))
                    second = (chance.randint(1, most), chance.randint(1, most))
                turns = {(0, 0): 0, (1, 0): 1, (1, 1): 2, (0, 1): 3}[(row + up) % 2, (column + across) % 2]
                for _ in range(turns):
                    first, second = (-first[1], first[0]), (-second[1], second[0])
                winds = (skewed(first), skewed(second))
            tiles.append(Tile(LETTERS[len(tiles)], corners, winds))
    return Floor(tiles)


def random_place(chance, floor):
    bottom = chance.randint(2, 12)
    return chance.choice(floor.sides()), Ratio(chance.randint(1, bottom - 1), bottom)
