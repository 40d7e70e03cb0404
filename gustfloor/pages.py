"""Pages: the texts of halls."""

from gustfloor.errors import InvalidText
from gustfloor.hall import Hall
from gustfloor.planes import is_name
from gustfloor.texts import floor_text, lines_of, place_text, read_head, text_of_lines, written_place


def write_page(hall):
    """The text of the floor and the marks of a hall."""
    marks = [f"mark {name} {place_text(place)}" for name, place in hall.marks()]
    return floor_text(hall.floor) + text_of_lines(marks)


def written_mark(line):
    """The name and the place that a line tells, or None."""
    words = line.split(" ")
    if len(words) != 3 or words[0] != "mark" or not is_name(words[1]):
        return None
    return words[1], written_place(words[2])


def read_page(text):
    """A hall with the floor and the marks of a text; raises InvalidText with the index of the first wrong line."""
    lines = lines_of(text)
    floor, begin = read_head(lines)
    marks = {}
    last = ""
    for at in range(begin, len(lines)):
        mark = written_mark(lines[at])
        if mark is None or not floor.is_place(mark[1]) or mark[0] <= last or len(marks) == Hall.MOST:
            raise InvalidText(at)
        last, place = mark
        marks[last] = place
    return Hall.with_marks(floor, marks, Hall.MOST)
