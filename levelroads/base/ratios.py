"""Ratios: quotients of two integers in lowest terms."""

from math import gcd

from levelroads.base.numbers import is_integer
from levelroads.errors import InvalidCount, InvalidOperation, ParseError

MAX_FIGURES = 60

_FIGURES = "0123456789"
_TOO_LONG = 10 ** 60
_PART_FIGURES = 64
_PART = 10 ** 64


class Ratio:
    """The ratio of two integers. It never changes."""

    def __init__(self, top, bottom=1):
        if not is_integer(top):
            raise InvalidCount(top)
        if not is_integer(bottom) or bottom == 0:
            raise InvalidCount(bottom)
        self._top, self._bottom = _lowest(top, bottom)

    @classmethod
    def read(cls, text):
        """The ratio whose `str` a text is."""
        if not isinstance(text, str):
            raise ParseError(0)
        start, slash, end = text.partition("/")
        top = _read_integer(start)
        if not slash:
            return cls(top)
        bottom = _read_integer(end)
        if bottom < 2 or gcd(top, bottom) > 1:
            raise ParseError(0)
        return cls(top, bottom)

    @property
    def top(self):
        """The integer above, with the sign."""
        return self._top

    @property
    def bottom(self):
        """The integer below, at least 1."""
        return self._bottom

    @property
    def sign(self):
        """-1, 0 or 1."""
        return _sign_of(self._top)

    def plus(self, other):
        """The sum with a ratio or an integer."""
        top, bottom = _parts_of(other)
        return exact_ratio(self._top * bottom + top * self._bottom, self._bottom * bottom)

    def minus(self, other):
        """The difference to a ratio or an integer."""
        top, bottom = _parts_of(other)
        return exact_ratio(self._top * bottom - top * self._bottom, self._bottom * bottom)

    def times(self, other):
        """The product with a ratio or an integer."""
        top, bottom = _parts_of(other)
        return exact_ratio(self._top * top, self._bottom * bottom)

    def over(self, other):
        """The quotient by a ratio or an integer."""
        top, bottom = _parts_of(other)
        if top == 0:
            raise InvalidOperation("nothing is divided by 0")
        return exact_ratio(self._top * bottom, self._bottom * top)

    def compared(self, other):
        """-1, 0 or 1 for a ratio below, equal to or above the other one."""
        top, bottom = _parts_of(other)
        return _sign_of(self._top * bottom - top * self._bottom)

    def opposite(self):
        """The ratio with the other sign."""
        return exact_ratio(-self._top, self._bottom)

    def __eq__(self, other):
        return isinstance(other, Ratio) and self._top == other._top and self._bottom == other._bottom

    def __str__(self):
        if self._bottom == 1:
            return str(_text_of(self._top))
        return f"{_text_of(self._top)}/{_text_of(self._bottom)}"


def exact_ratio(top, bottom):
    """The ratio of two integers of any length, the bottom not 0."""
    if -_TOO_LONG < top < _TOO_LONG and -_TOO_LONG < bottom < _TOO_LONG:
        return Ratio(top, bottom)
    ratio = Ratio(0)
    ratio._top, ratio._bottom = _lowest(top, bottom)
    return ratio


def _lowest(top, bottom):
    if bottom == 1:
        return top, 1
    shared = gcd(top, bottom)
    if bottom < 0:
        shared = -shared
    return top // shared, bottom // shared


def _sign_of(number):
    if number == 0:
        return 0
    return 1 if number > 0 else -1


def _parts_of(value):
    if isinstance(value, Ratio):
        return value.top, value.bottom
    if is_integer(value):
        return value, 1
    raise InvalidOperation("the other value is a ratio or an integer")


def _read_integer(text):
    figures = text.removeprefix("-")
    if not 1 <= len(figures) <= MAX_FIGURES or not all([figure in _FIGURES for figure in figures]):
        raise ParseError(0)
    if figures[0] == "0" and text != "0":
        raise ParseError(0)
    return int(text)


def _text_of(number):
    # Python's own str refuses integers of more than 4300 figures, and products grow beyond that.
    rest = abs(number)
    parts = []
    while rest >= _PART:
        rest, part = divmod(rest, _PART)
        parts.append(str(part).zfill(_PART_FIGURES))
    parts.append(str(rest))
    sign = "-" if number < 0 else ""
    return sign + "".join(parts[::-1])
