"""Deeds: what they do to a scene, which is the pair of a floor and the dict of the marked places by their names."""

from gustfloor.changes import joined, opened, parted, walled, with_winds
from gustfloor.errors import InvalidDeed, InvalidName, InvalidPlace, MarkedSide, TooMany, UnknownMark
from gustfloor.planes import is_name

LENGTHS = {"wind": 4, "part": 6, "join": 4, "wall": 2, "open": 2, "mark": 3, "clear": 2}
# These change nothing about which of the places that stay can be reached from which.
GENTLE = ("mark", "clear", "part", "join")


def is_deed(value):
    """Whether any value is a tuple that begins with the word of a deed and has as many items as this deed has."""
    if not isinstance(value, tuple) or len(value) == 0 or not isinstance(value[0], str):
        return False
    return len(value) == LENGTHS.get(value[0])


def check_deeds(deeds):
    """Raises InvalidDeed with the index of the first of any values that is no deed."""
    for at, deed in enumerate(deeds):
        if not is_deed(deed):
            raise InvalidDeed(at)


def are_gentle(deeds):
    """Whether deeds change nothing about which of the places that stay can be reached from which."""
    return all([deed[0] in GENTLE for deed in deeds])


def marked(scene, name, place, limit):
    """The scene in which a place has a name."""
    floor, marks = scene
    if not is_name(name):
        raise InvalidName(name)
    if not floor.is_place(place):
        raise InvalidPlace(place)
    if name not in marks and len(marks) >= limit:
        raise TooMany(limit)
    return floor, {**marks, name: place}


def cleared(scene, name):
    """The scene without a mark."""
    floor, marks = scene
    if not is_name(name) or name not in marks:
        raise UnknownMark(name)
    return floor, {kept: marks[kept] for kept in marks if kept != name}


def joined_between(scene, one, other, name):
    """The floor in which two tiles are joined; raises MarkedSide if there are marks on the side that vanishes."""
    floor, marks = scene
    after = joined(floor, one, other, name)
    for side, _ in marks.values():
        if side not in after:
            raise MarkedSide(side)
    return after


def changed(scene, deed):
    """The floor behind a deed that changes it."""
    floor = scene[0]
    word, *items = deed
    if word == "wind":
        return with_winds(floor, *items)
    if word == "part":
        return parted(floor, *items)
    if word == "join":
        return joined_between(scene, *items)
    if word == "wall":
        return walled(floor, *items)
    return opened(floor, *items)


def scene_behind(scene, deeds, limit):
    """The scene behind deeds, one after another; limit is the greatest number of marks."""
    for deed in deeds:
        if deed[0] == "mark":
            scene = marked(scene, deed[1], deed[2], limit)
        elif deed[0] == "clear":
            scene = cleared(scene, deed[1])
        else:
            scene = changed(scene, deed), scene[1]
    return scene
