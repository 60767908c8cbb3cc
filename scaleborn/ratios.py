"""Ratios: exact fractions in lowest terms."""

from math import gcd

from scaleborn.checks import are_names, is_integer
from scaleborn.errors import BadRatio
from scaleborn.reading import reader_of, whole_in


class Ratio:
    """Top over bottom, two integers, in lowest terms."""

    def __init__(self, top, bottom=1):
        if not is_integer(top):
            raise BadRatio("top")
        if not is_integer(bottom) or bottom == 0:
            raise BadRatio("bottom")
        divisor = gcd(top, bottom) if bottom > 0 else -gcd(top, bottom)
        self.top = top // divisor
        self.bottom = bottom // divisor
        self.sign = (self.top > 0) - (self.top < 0)
        self.is_whole = self.bottom == 1
        self.below = self.top // self.bottom

    @classmethod
    def read(cls, text):
        """The ratio with this text."""
        reader = reader_of(text)
        ratio = ratio_in(reader.peek())
        if ratio is None:
            reader.refuse()
        reader.step()
        reader.finish()
        return cls(ratio.top, ratio.bottom)

    @staticmethod
    def of(value):
        """The Ratio of a ratio."""
        return _ratio_of(value, "value")

    def compared(self, other):
        """-1, 0 or 1, as it is less than the other one, equal or greater."""
        return (self - other).sign

    def is_below(self, other):
        """Whether it is less than the other one."""
        return self.compared(other) < 0

    def over(self, other):
        """It divided by the other one."""
        right = _ratio_of(other, "other")
        if right.sign == 0:
            raise BadRatio("other")
        return Ratio(self.top * right.bottom, self.bottom * right.top)

    def __add__(self, other):
        right = _ratio_of(other, "other")
        return Ratio(self.top * right.bottom + right.top * self.bottom, self.bottom * right.bottom)

    def __sub__(self, other):
        right = _ratio_of(other, "other")
        return Ratio(self.top * right.bottom - right.top * self.bottom, self.bottom * right.bottom)

    def __mul__(self, other):
        right = _ratio_of(other, "other")
        return Ratio(self.top * right.top, self.bottom * right.bottom)

    def __neg__(self):
        return Ratio(-self.top, self.bottom)

    def __abs__(self):
        return Ratio(abs(self.top), self.bottom)

    def __bool__(self):
        return bool(self.sign)

    def __eq__(self, other):
        return _is_same(self, other)

    def __str__(self):
        return str(_written(self))

    def __repr__(self):
        return str(_written(self))


def is_ratio(value):
    """Whether any value is a Ratio or an integer."""
    return isinstance(value, Ratio) or is_integer(value)


def added(*ratios):
    """The sum of ratios."""
    if not all([is_ratio(ratio) for ratio in ratios]):
        raise BadRatio("ratios")
    total = Ratio(0)
    for ratio in ratios:
        total = total + ratio
    return total


def _ratio_of(value, part):
    """The Ratio of a ratio, which any other value is not."""
    if isinstance(value, Ratio):
        return value
    if is_integer(value):
        return Ratio(value)
    raise BadRatio(part)


def _is_same(ratio, other):
    """Whether the other value is a ratio of the same value."""
    if isinstance(other, Ratio):
        return ratio.top == other.top and ratio.bottom == other.bottom
    return is_integer(other) and ratio.is_whole and ratio.top == other


def _written(ratio):
    """The text of a ratio."""
    return f"{ratio.top}" if ratio.is_whole else f"{ratio.top}/{ratio.bottom}"


def ratio_in(word):
    """The ratio that the word writes, None for any other word."""
    pieces = [whole_in(piece) for piece in word.removeprefix("-").split("/")]
    if len(pieces) > 2 or any([piece is None for piece in pieces]):
        return None
    bottom = pieces[1] if len(pieces) == 2 else 1
    if bottom == 0:
        return None
    top = -pieces[0] if word.startswith("-") else pieces[0]
    ratio = Ratio(top, bottom)
    # A fraction that is not in lowest terms, -0 and 3/1 are written otherwise.
    return ratio if str(ratio) == word else None


def numbers_in(value):
    """A dict from things, ascending, to Ratios of a dict from things to ratios, None for any other value."""
    if not isinstance(value, dict) or not are_names(list(value)):
        return None
    if not all([is_ratio(number) for number in value.values()]):
        return None
    return {thing: Ratio.of(value[thing]) for thing in sorted(list(value))}
