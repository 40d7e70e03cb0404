"""Ratios: fractions in lowest terms, of numbers of any size."""

from math import gcd

from gustfloor.errors import InvalidRatio

MOST_LETTERS = 2000
CHUNK = 64
CHUNK_LIMIT = 10 ** 64


def is_number(value):
    """Whether a value is an integer; a boolean is none here."""
    return isinstance(value, int) and not isinstance(value, bool)


def digits(number):
    """The decimal digits of a number, with a minus if it is below 0."""
    # Python refuses to write numbers of more than some thousands of digits at once.
    rest = abs(number)
    chunks = []
    while rest >= CHUNK_LIMIT:
        rest, low = divmod(rest, CHUNK_LIMIT)
        chunks.append(str(low).zfill(CHUNK))
    chunks.append(str(rest))
    if number < 0:
        chunks.append("-")
    return "".join(chunks[::-1])


def number_of(word):
    """The number that a string of any length names, or None if it does not consist of decimal digits."""
    above = word.removeprefix("-")
    if not above.isascii() or not above.isdigit():
        return None
    # Python refuses to read as many digits at once as it refuses to write.
    padded = above.zfill((len(above) // CHUNK + 1) * CHUNK)
    number = 0
    for at in range(0, len(padded), CHUNK):
        number = number * CHUNK_LIMIT + int(padded[at:at + CHUNK])
    return number if above == word else -number


def ratio_of(text):
    """The ratio that a string of any length is the text of, or None."""
    word, slash, under = text.partition("/")
    top = number_of(word)
    bottom = number_of(under) if slash else 1
    if top is None or not bottom:
        return None
    ratio = Ratio(top, bottom)
    # A ratio has just one text, so any other way to write it is wrong.
    return ratio if str(ratio) == text else None


class Ratio:
    """A fraction in lowest terms with a positive bottom."""

    def __init__(self, top, bottom=1):
        if not is_number(top) or not is_number(bottom) or bottom == 0:
            raise InvalidRatio((top, bottom))
        common = gcd(top, bottom)
        if bottom < 0:
            common = -common
        self._top = top // common
        self._bottom = bottom // common

    @classmethod
    def read(cls, text):
        """The ratio of a text; raises InvalidRatio(text)."""
        if not isinstance(text, str) or len(text) > MOST_LETTERS:
            raise InvalidRatio(text)
        ratio = ratio_of(text)
        if ratio is None:
            raise InvalidRatio(text)
        return ratio

    @property
    def top(self):
        return self._top

    @property
    def bottom(self):
        return self._bottom

    def __add__(self, other):
        return Ratio(self._top * other.bottom + other.top * self._bottom, self._bottom * other.bottom)

    def __sub__(self, other):
        return Ratio(self._top * other.bottom - other.top * self._bottom, self._bottom * other.bottom)

    def __mul__(self, other):
        return Ratio(self._top * other.top, self._bottom * other.bottom)

    def __neg__(self):
        return Ratio(-self._top, self._bottom)

    def over(self, other):
        """The quotient; raises InvalidRatio(other) if the other ratio is 0."""
        if other.top == 0:
            raise InvalidRatio(other)
        return Ratio(self._top * other.bottom, self._bottom * other.top)

    def is_below(self, other):
        """Whether this ratio is less than the other one."""
        return self._top * other.bottom < other.top * self._bottom

    def __eq__(self, other):
        return isinstance(other, Ratio) and self._top == other._top and self._bottom == other._bottom

    def __bool__(self):
        return bool(self._top)

    def __str__(self):
        if self._bottom == 1:
            return str(digits(self._top))
        return f"{digits(self._top)}/{digits(self._bottom)}"

    def __repr__(self):
        return f"Ratio({str(self)})"
