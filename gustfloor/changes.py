"""Changes: new floors, made of another one."""

from gustfloor.errors import (
    DuplicateName, InvalidChord, InvalidCorners, InvalidName, InvalidWall, NotConvex, NotJoined, SplitSide,
)
from gustfloor.floors import Floor
from gustfloor.planes import is_name, is_point
from gustfloor.tiles import Tile


def turned(floor):
    """The floor with the opposite winds."""
    return Floor([tile.turned() for tile in floor.tiles()], floor.walls())


def exchanged(floor, names, tiles):
    """The floor in which tiles stand in the place of the first one of the named tiles, and the others are dropped."""
    arranged = []
    for tile in floor.tiles():
        if tile.label == names[0]:
            arranged.extend(tiles)
        elif tile.label not in names:
            arranged.append(tile)
    return Floor(arranged, floor.walls())


def with_winds(floor, name, first, second):
    """The floor in which a tile has other winds."""
    return exchanged(floor, [name], [floor.tile(name).with_winds(first, second)])


def check_name(name, taken):
    """Raises an error unless any value is a name that is not taken."""
    if not is_name(name):
        raise InvalidName(name)
    if name in taken:
        raise DuplicateName(name)


def corners_round(corners, begin, end):
    """The corners from one corner on to another one, going round."""
    at, to = corners.index(begin), corners.index(end)
    return corners[at:to + 1] if at <= to else corners[at:] + corners[:to + 1]


def chord_parts(tile, begin, end, one, other):
    """The two tiles into which a chord parts a tile; raises InvalidChord."""
    for corner in (begin, end):
        if not is_point(corner) or corner not in tile.corners:
            raise InvalidChord(begin, end)
    # Corners of one side, or of a row that goes straight on, leave one of both without corners or without room.
    try:
        return [
            Tile(one, corners_round(tile.corners, begin, end), tile.winds),
            Tile(other, corners_round(tile.corners, end, begin), tile.winds),
        ]
    except (InvalidCorners, NotConvex, SplitSide):
        raise InvalidChord(begin, end) from None


def parted(floor, name, begin, end, one, other):
    """The floor in which a chord parts a tile into two."""
    tile = floor.tile(name)
    taken = [label for label in floor.names() if label != name]
    check_name(one, taken)
    check_name(other, taken + [one])
    return exchanged(floor, [name], chord_parts(tile, begin, end, one, other))


def corners_behind(tile, side):
    """The corners of a tile in their order, from the end at which a side of it leads on to the next side."""
    at = tile.sides().index(side) + 1
    return tile.corners[at:] + tile.corners[:at]


def common_side(one, other):
    """The only side that two tiles have in common, or None if there is none or another one."""
    sides = [side for side in one.sides() if side in other.sides()]
    return sides[0] if len(sides) == 1 else None


def joined_tile(one, other, side, name):
    """The tile that two tiles with a common side make; raises NotJoined."""
    # The corners of the second tile begin and end with those of the common side, which the first one has already.
    corners = corners_behind(one, side) + corners_behind(other, side)[1:-1]
    try:
        return Tile(name, corners, one.winds)
    except (InvalidCorners, NotConvex):
        raise NotJoined(one.label, other.label) from None


def joined(floor, one, other, name):
    """The floor in which two tiles are joined to one."""
    first, second = floor.tile(one), floor.tile(other)
    check_name(name, [label for label in floor.names() if label not in (one, other)])
    side = common_side(first, second)
    if first.winds != second.winds or side is None or side in floor.walls():
        raise NotJoined(one, other)
    return exchanged(floor, [one, other], [joined_tile(first, second, side, name)])


def walled(floor, side):
    """The floor in which a side is a wall; raises InvalidWall(side) unless it can become one."""
    return Floor(floor.tiles(), floor.walls() + [side])


def opened(floor, side):
    """The floor in which a wall is none; raises InvalidWall(side) unless it is one."""
    if side not in floor or side not in floor.walls():
        raise InvalidWall(side)
    return Floor(floor.tiles(), [held for held in floor.walls() if held != side])
