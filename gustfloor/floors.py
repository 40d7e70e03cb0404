"""Floors: tiles that meet in whole sides and in corners only, and walls between them."""

from gustfloor.errors import (
    DuplicateName, InvalidPlace, InvalidTiles, InvalidWall, LooseCorner, Overlap, TooMany, UnknownSide, UnknownTile,
)
from gustfloor.planes import bearing, is_name, is_side
from gustfloor.ratios import Ratio
from gustfloor.tiles import Tile, edges_of


def check_tiles(tiles):
    """Raises an error unless any value is a list of so many tiles, with different names, as a floor may have."""
    if not isinstance(tiles, (list, tuple)):
        raise InvalidTiles(0)
    for at, tile in enumerate(tiles):
        if not isinstance(tile, Tile):
            raise InvalidTiles(at)
    if len(tiles) == 0:
        raise InvalidTiles(0)
    if len(tiles) > Floor.MOST:
        raise TooMany(Floor.MOST)
    names = [tile.label for tile in tiles]
    for at, name in enumerate(names):
        if name in names[:at]:
            raise DuplicateName(name)


def keeps_out(tile, other):
    """Whether there is a side of a tile such that the other tile lies behind the line through it."""
    for begin, end in edges_of(tile.corners):
        if max([bearing(begin, end, corner) for corner in other.corners]) <= 0:
            return True
    return False


def check_apart(tiles):
    """Raises Overlap with the names of the first two tiles that overlap."""
    for at, one in enumerate(tiles):
        for other in tiles[at + 1:]:
            if not keeps_out(one, other) and not keeps_out(other, one):
                raise Overlap(one.label, other.label)


def lies_within(corner, side):
    """Whether a point lies within a side, strictly between its ends."""
    # The points of a line ascend from one end to the other one, so most corners need no bearing.
    return side[0] < corner < side[1] and bearing(side[0], side[1], corner) == 0


def check_corners_within(tiles, sides):
    """Raises LooseCorner with the first corner, tile by tile, that lies within a side."""
    for tile in tiles:
        for corner in tile.corners:
            if any([lies_within(corner, side) for side in sides]):
                raise LooseCorner(corner)


def holders_of(tiles):
    """For each side the list of the tiles that have it, in the order of the tiles."""
    holders = {}
    for tile in tiles:
        for side in tile.sides():
            holders.setdefault(side, []).append(tile)
    return holders


def walls_of(given, holders):
    """The ascending list of the walls; raises InvalidWall for the first value that cannot be one."""
    walls = []
    for value in given:
        if not is_side(value) or len(holders.get(value, ())) != 2 or value in walls:
            raise InvalidWall(value)
        walls.append(value)
    return sorted(walls)


class Floor:
    """1 to 16 tiles with different names, and walls."""

    MOST = 16

    def __init__(self, tiles, walls=()):
        check_tiles(tiles)
        check_apart(tiles)
        holders = holders_of(tiles)
        check_corners_within(tiles, list(holders))
        self._tiles = list(tiles)
        self._holders = holders
        self._walls = walls_of(walls, holders)

    def tiles(self):
        """The list of the tiles, in order."""
        return list(self._tiles)

    def names(self):
        """The list of the names of the tiles, in order."""
        return [tile.label for tile in self._tiles]

    def walls(self):
        """The ascending list of the walls."""
        return list(self._walls)

    def sides(self):
        """The ascending list of the sides."""
        return sorted(list(self._holders))

    def tile(self, name):
        """The tile of a name; raises UnknownTile(name) for any value that is the name of none."""
        if is_name(name):
            for tile in self._tiles:
                if tile.label == name:
                    return tile
        raise UnknownTile(name)

    def holders(self, side):
        """The list of the tiles that have a side; raises UnknownSide(side) for any value that is none."""
        if side not in self:
            raise UnknownSide(side)
        return list(self._holders[side])

    def kind(self, side):
        """Whether a side is a wall, a pass, a spring or a rest."""
        gates = [tile.lets_in(side) for tile in self.holders(side)]
        if side in self._walls:
            return "wall"
        if True in gates:
            return "pass" if False in gates else "spring"
        return "rest"

    def tiles_at(self, side):
        """The list of the names of the tiles that have a side."""
        return [tile.label for tile in self.holders(side)]

    def into(self, side):
        """The list of the names of the tiles that a side lets into."""
        holders = self.holders(side)
        if side in self._walls:
            return []
        return [tile.label for tile in holders if tile.lets_in(side)]

    def is_place(self, value):
        """Whether any value is a place of the floor."""
        if not isinstance(value, tuple) or len(value) != 2 or value[0] not in self:
            return False
        ratio = value[1]
        return isinstance(ratio, Ratio) and 0 < ratio.top < ratio.bottom

    def point(self, place):
        """The pair of the ratios of the point of a place; raises InvalidPlace(place) for any other value."""
        if not self.is_place(place):
            raise InvalidPlace(place)
        (start, end), ratio = place
        return (
            Ratio(start[0]) + ratio * Ratio(end[0] - start[0]),
            Ratio(start[1]) + ratio * Ratio(end[1] - start[1]),
        )

    def __contains__(self, side):
        return is_side(side) and side in self._holders

    def __eq__(self, other):
        return isinstance(other, Floor) and self._tiles == other._tiles and self._walls == other._walls

    def __len__(self):
        return len(self._tiles)

    def __repr__(self):
        return f"Floor({len(self._tiles)} tiles, {len(self._walls)} walls)"
