"""Balances: a number for each of some things."""

from math import gcd, lcm

from scaleborn.checks import are_names, free_name, is_name, is_naming
from scaleborn.errors import BadBalance, BadNumber
from scaleborn.ratios import Ratio, is_ratio, numbers_in, ratio_in
from scaleborn.reading import reader_of


class Balance:
    """A ratio other than 0 for each of some things."""

    def __init__(self, numbers):
        told = numbers_in(numbers)
        if told is None:
            raise BadBalance("numbers")
        self._numbers = {thing: number for thing, number in told.items() if number.sign != 0}
        self.things = tuple(self._numbers)
        self.is_nothing = len(self.things) == 0
        # A flat tuple of strings and integers that tells the balance, for keys of dicts.
        self.key = tuple([word for thing, number in self._numbers.items()
                          for word in (thing, number.top, number.bottom)])

    @classmethod
    def read(cls, text):
        """The balance with this text."""
        reader = reader_of(text)
        if reader.is_alone("0"):
            return cls({})
        numbers = {}
        last = _read_term(reader, numbers, "")
        while reader.peek() == "+" and free_name(last, {}) is not None:
            reader.step()
            last = _read_term(reader, numbers, last)
        reader.finish()
        return cls(numbers)

    @staticmethod
    def of(*things):
        """1 for each thing, as often as it is told."""
        if not are_names(things):
            raise BadBalance("things")
        return Balance(_counts(things))

    def number_of(self, thing):
        """The number of a thing, 0 for any other value."""
        return self._numbers.get(thing, Ratio(0)) if is_name(thing) else Ratio(0)

    def gains(self):
        """The things with numbers above 0."""
        return Balance({thing: number for thing, number in self._numbers.items() if number.sign > 0})

    def losses(self):
        """The things with numbers below 0, turned."""
        return Balance({thing: -number for thing, number in self._numbers.items() if number.sign < 0})

    def least(self):
        """In least terms; nothing stays."""
        bottom = 1
        divisor = 0
        for number in self._numbers.values():
            bottom = lcm(bottom, number.bottom)
            divisor = gcd(divisor, number.top)
        return Balance({thing: Ratio(number.top * bottom, number.bottom * divisor)
                        for thing, number in self._numbers.items()})

    def renamed(self, names):
        """With each thing that is a key of names called what names has for it, all at once."""
        if not is_naming(names):
            raise BadBalance("names")
        numbers = {}
        for thing, number in self._numbers.items():
            name = names.get(thing, thing)
            numbers[name] = number + numbers.get(name, 0)
        return Balance(numbers)

    def __add__(self, other):
        return _summed(self, other, 1)

    def __sub__(self, other):
        return _summed(self, other, -1)

    def __neg__(self):
        return _times(self, -1)

    def __mul__(self, other):
        return _times(self, other)

    def __eq__(self, other):
        return isinstance(other, Balance) and self.key == other.key

    def __str__(self):
        return str(_written(self))


def mean_of(things):
    """1/n for each of a list of n things, as often as it stands there."""
    if not are_names(things) or len(things) == 0:
        raise BadBalance("things")
    return Balance(_counts(things)) * Ratio(1, len(things))


def _counts(things):
    """How often each thing stands in a list."""
    counts = {}
    for thing in things:
        counts[thing] = counts.get(thing, 0) + 1
    return counts


def _summed(one, other, factor):
    """The one balance and the other one, this times 1 or -1."""
    if not isinstance(other, Balance):
        raise BadBalance("other")
    numbers = {thing: one.number_of(thing) for thing in one.things}
    for thing in other.things:
        numbers[thing] = other.number_of(thing) * factor + numbers.get(thing, 0)
    return Balance(numbers)


def _times(balance, ratio):
    """A multiple of a balance."""
    if not is_ratio(ratio):
        raise BadNumber("ratio")
    return Balance({thing: balance.number_of(thing) * ratio for thing in balance.things})


def _written(balance):
    """The text of a balance."""
    if balance.is_nothing:
        return "0"
    return " + ".join([_term(thing, balance.number_of(thing)) for thing in balance.things])


def _term(thing, number):
    """The words of a thing and its number."""
    return thing if number == 1 else f"{number} {thing}"


def _read_term(reader, numbers, last):
    """Read a number, unless it is 1, and a thing above the last one, which is returned."""
    number = ratio_in(reader.peek())
    if number is not None:
        if number == 0 or number == 1:
            reader.refuse()
        reader.step()
    thing = reader.peek()
    if not is_name(thing) or thing <= last:
        reader.refuse()
    numbers[thing] = 1 if number is None else number
    reader.step()
    return thing


def wholes_of(balance, things):
    """The numbers of a balance of whole numbers for these things, in their order, as integers."""
    return [balance.number_of(thing).top for thing in things]
