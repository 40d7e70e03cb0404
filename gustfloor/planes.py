"""Names, points, winds and sides: the plain values of which floors are made."""

from gustfloor.ratios import is_number

MOST_LETTERS = 8
FARTHEST = 1000000


def is_name(value):
    """Whether any value is a string of 1 to 8 lowercase letters."""
    if not isinstance(value, str) or len(value) > MOST_LETTERS:
        return False
    return value.isascii() and value.isalpha() and value.islower()


def is_near(value):
    """Whether any value is a number that a point or a wind may have."""
    return is_number(value) and -FARTHEST <= value <= FARTHEST


def is_point(value):
    """Whether any value is a pair of numbers from -1000000 to 1000000."""
    return isinstance(value, tuple) and len(value) == 2 and is_near(value[0]) and is_near(value[1])


def is_wind(value):
    """Whether any value is such a pair of numbers that are not both 0."""
    return is_point(value) and value != (0, 0)


def is_side(value):
    """Whether any value is a pair of points in ascending order, whatever it is a side of."""
    if not isinstance(value, tuple) or len(value) != 2:
        return False
    return is_point(value[0]) and is_point(value[1]) and value[0] < value[1]


def cross(one, other):
    """Cross of two pairs of numbers: above 0 if the other one points to the left of the one."""
    return one[0] * other[1] - one[1] * other[0]


def difference(one, other):
    """The pair that leads from the other pair of numbers to the one."""
    return one[0] - other[0], one[1] - other[1]


def bearing(begin, end, point):
    """Above 0 if the point lies to the left of the line from begin to end, 0 if it lies on it."""
    return cross(difference(end, begin), difference(point, begin))
