"""Texts of sides, places, floors and ways, there and back."""

from gustfloor.errors import GustError, InvalidText
from gustfloor.floors import Floor
from gustfloor.planes import is_point, is_side
from gustfloor.ratios import digits, number_of, ratio_of
from gustfloor.tiles import Tile

SIDE_WIDTH = 24
KIND_WIDTH = 8
COUNT_WIDTH = 2


def point_text(point):
    """The text of a point or a wind."""
    return f"{point[0]},{point[1]}"


def side_text(side):
    """The text of a side."""
    return f"{point_text(side[0])}:{point_text(side[1])}"


def place_text(place):
    """The text of a place."""
    return f"{side_text(place[0])}@{str(place[1])}"


def tile_text(tile):
    """The line of a tile, without its line feed."""
    corners = [point_text(corner) for corner in tile.corners]
    winds = [point_text(wind) for wind in tile.winds]
    return " ".join(["tile", tile.label, *corners, "|", *winds])


def text_of_lines(lines):
    """The text that has these lines."""
    return "".join([f"{line}\n" for line in lines])


def floor_text(floor):
    """The text of a floor: its tiles in their order and behind them its walls."""
    tiles = [tile_text(tile) for tile in floor.tiles()]
    walls = [f"wall {side_text(side)}" for side in floor.walls()]
    return text_of_lines(tiles + walls)


def way_text(places):
    """The text of a way, a place in each line."""
    return text_of_lines([place_text(place) for place in places])


def chart(floor):
    """A line for each side of a floor: its text, its kind, and the number of the tiles into which it lets."""
    lines = []
    for side in floor.sides():
        many = str(len(floor.into(side)))
        columns = [side_text(side).ljust(SIDE_WIDTH), floor.kind(side).ljust(KIND_WIDTH), many.rjust(COUNT_WIDTH)]
        lines.append("".join(columns))
    return text_of_lines(lines)


def written_number(word):
    """The number that a word is the text of, or None."""
    number = number_of(word)
    # A number has just one text, so leading zeros are wrong, and so is a zero with a minus.
    return number if number is not None and digits(number) == word else None


def written_point(word):
    """The point or the wind that a word is the text of, or None."""
    left, _, right = word.partition(",")
    point = (written_number(left), written_number(right))
    return point if is_point(point) else None


def written_side(word):
    """The side, of whatever floor, that a word is the text of, or None."""
    start, _, end = word.partition(":")
    side = (written_point(start), written_point(end))
    return side if is_side(side) else None


def written_place(word):
    """The place, on whatever floor, that a word is the text of, or None."""
    first, _, second = word.partition("@")
    side, ratio = written_side(first), ratio_of(second)
    if side is None or ratio is None or not 0 < ratio.top < ratio.bottom:
        return None
    return side, ratio


def read_side(text):
    """The side that a text tells; raises InvalidText(0) for any value that is no such text."""
    side = written_side(text) if isinstance(text, str) else None
    if side is None:
        raise InvalidText(0)
    return side


def read_place(text):
    """The place that a text tells; raises InvalidText(0) for any value that is no such text."""
    place = written_place(text) if isinstance(text, str) else None
    if place is None:
        raise InvalidText(0)
    return place


def lines_of(text):
    """The lines of a text, without their line feeds; raises InvalidText for any value that has no whole lines."""
    if not isinstance(text, str):
        raise InvalidText(0)
    if not text.endswith("\n"):
        raise InvalidText(text.count("\n"))
    return text[:-1].split("\n")


def written_tile(line):
    """The tile that a line tells, or None."""
    words = line.split(" ")
    if words[-3:-2] != ["|"]:
        return None
    corners = [written_point(word) for word in words[2:-3]]
    winds = [written_point(word) for word in words[-2:]]
    try:
        return Tile(words[1], corners, winds)
    except GustError:
        return None


def lines_with(word, lines, begin):
    """The indexes of the lines, from one of them on, that begin with a word; the first other line ends them."""
    end = begin
    while end < len(lines) and lines[end].split(" ")[0] == word:
        end += 1
    return list(range(begin, end))


def read_tiles(lines):
    """The floor that the lines of tiles at the head tell, and how many they are."""
    tiles = []
    for at in lines_with("tile", lines, 0):
        tiles.append(written_tile(lines[at]))
        # A line is wrong that makes no floor of the tiles up to it.
        try:
            Floor(tiles)
        except GustError:
            raise InvalidText(at) from None
    if not tiles:
        raise InvalidText(0)
    return Floor(tiles), len(tiles)


def read_head(lines):
    """The floor that the lines of tiles and walls at the head tell, and how many they are."""
    floor, begin = read_tiles(lines)
    walls = []
    for at in lines_with("wall", lines, begin):
        side = written_side(lines[at].removeprefix("wall "))
        if side not in floor or len(floor.tiles_at(side)) != 2 or (walls and side <= walls[-1]):
            raise InvalidText(at)
        walls.append(side)
    return Floor(floor.tiles(), walls), begin + len(walls)


def read_floor(text):
    """The floor that a text tells; raises InvalidText with the index of the first wrong line."""
    lines = lines_of(text)
    floor, many = read_head(lines)
    if many < len(lines):
        raise InvalidText(many)
    return floor


def read_way(text):
    """The list of the places that a text tells; raises InvalidText with the index of the first wrong line."""
    places = []
    for at, line in enumerate(lines_of(text)):
        place = written_place(line)
        if place is None:
            raise InvalidText(at)
        places.append(place)
    return places
