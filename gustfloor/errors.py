"""The errors of the package: each kind of failure has a class of its own."""


class GustError(ValueError):
    """A value that is not as it must be, or that does not fit the floor or the hall."""


class InvalidRatio(GustError):
    """Two values that make no ratio, a text of none, or the ratio 0 as a divisor."""

    def __init__(self, given):
        super().__init__("no ratio")
        self.given = given
        self.code = "InvalidRatio"


class InvalidSpan(GustError):
    """Two values that are no ends of a span, or a value that is no span."""

    def __init__(self, given):
        super().__init__("no span")
        self.given = given
        self.code = "InvalidSpan"


class InvalidText(GustError):
    """A text that is not written as it must be; the line is the index of the wrong one."""

    def __init__(self, line):
        super().__init__("no such text")
        self.line = line
        self.code = "InvalidText"


class InvalidName(GustError):
    """A value that is no name."""

    def __init__(self, name):
        super().__init__("no name")
        self.name = name
        self.code = "InvalidName"


class DuplicateName(GustError):
    """A name that is in use."""

    def __init__(self, name):
        super().__init__("this name is in use")
        self.name = name
        self.code = "DuplicateName"


class InvalidCorners(GustError):
    """Corners that make no tile; at is the index of the first wrong one."""

    def __init__(self, at):
        super().__init__("no corners of a tile")
        self.at = at
        self.code = "InvalidCorners"


class NotConvex(GustError):
    """Corners of which a convex tile cannot be made."""

    def __init__(self):
        super().__init__("the tile is not convex")
        self.code = "NotConvex"


class InvalidWinds(GustError):
    """Values that are no two winds of a tile."""

    def __init__(self):
        super().__init__("no winds of a tile")
        self.code = "InvalidWinds"


class SplitSide(GustError):
    """A side into which one wind of its tile points, but not both."""

    def __init__(self, side):
        super().__init__("the side neither lets in nor lets out")
        self.side = side
        self.code = "SplitSide"


class InvalidTiles(GustError):
    """Values that are no tiles; at is the index of the first wrong one."""

    def __init__(self, at):
        super().__init__("no tiles")
        self.at = at
        self.code = "InvalidTiles"


class TooMany(GustError):
    """More items than there may be."""

    def __init__(self, most):
        super().__init__("too many items")
        self.most = most
        self.code = "TooMany"


class Overlap(GustError):
    """Two tiles that overlap, by their names."""

    def __init__(self, one, other):
        super().__init__("two tiles overlap")
        self.one = one
        self.other = other
        self.code = "Overlap"


class LooseCorner(GustError):
    """A corner of a tile that lies within a side."""

    def __init__(self, corner):
        super().__init__("a corner lies within a side")
        self.corner = corner
        self.code = "LooseCorner"


class InvalidWall(GustError):
    """A side that cannot be a wall, is one already, or is none."""

    def __init__(self, side):
        super().__init__("no such wall")
        self.side = side
        self.code = "InvalidWall"


class InvalidChord(GustError):
    """Two corners between which a tile cannot be parted."""

    def __init__(self, one, other):
        super().__init__("no chord of the tile")
        self.one = one
        self.other = other
        self.code = "InvalidChord"


class NotJoined(GustError):
    """Two tiles that cannot be joined, by their names."""

    def __init__(self, one, other):
        super().__init__("the tiles cannot be joined")
        self.one = one
        self.other = other
        self.code = "NotJoined"


class MarkedSide(GustError):
    """A side that would vanish although there are marks on it."""

    def __init__(self, side):
        super().__init__("there are marks on the side")
        self.side = side
        self.code = "MarkedSide"


class InvalidPlace(GustError):
    """A value that is no place of the floor."""

    def __init__(self, value):
        super().__init__("no place of the floor")
        self.value = value
        self.code = "InvalidPlace"


class InvalidRound(GustError):
    """A value that is no round of the floor."""

    def __init__(self, value):
        super().__init__("no round of the floor")
        self.value = value
        self.code = "InvalidRound"


class InvalidCount(GustError):
    """A value that is no number of pieces."""

    def __init__(self, given):
        super().__init__("no number of pieces")
        self.given = given
        self.code = "InvalidCount"


class TooFar(GustError):
    """A way that has more pieces than were asked for."""

    def __init__(self, most):
        super().__init__("each way has too many pieces")
        self.most = most
        self.code = "TooFar"


class InvalidDeed(GustError):
    """A value that is no deed, by its index."""

    def __init__(self, index):
        super().__init__("no deed")
        self.index = index
        self.code = "InvalidDeed"


class InvalidLimit(GustError):
    """A value that is no limit of the marks of a hall."""

    def __init__(self, given):
        super().__init__("no limit")
        self.given = given
        self.code = "InvalidLimit"


class Missing(LookupError):
    """Something that is asked for and is not there."""


class UnknownTile(Missing):
    """A value that is the name of no tile."""

    def __init__(self, name):
        super().__init__("no tile has this name")
        self.name = name
        self.code = "UnknownTile"


class UnknownSide(Missing):
    """A value that is no side."""

    def __init__(self, side):
        super().__init__("there is no such side")
        self.side = side
        self.code = "UnknownSide"


class UnknownMark(Missing):
    """A value that is the name of no mark."""

    def __init__(self, name):
        super().__init__("no mark has this name")
        self.name = name
        self.code = "UnknownMark"


class NothingLeft(IndexError):
    """There is no step that could be undone or redone."""

    def __init__(self):
        super().__init__("no step is left")
        self.code = "NothingLeft"
