"""Texts of two sums: of comparisons and of pairs.

As names are finite, what can stand hangs on whether a name is left: the parts ask for that.
"""

from math import gcd

from scaleborn.checks import free_name, is_name
from scaleborn.reading import whole_in

_UNTURNED = (">", ">=")


class Part:
    """What has been read of one of two sums; any second sum can stand behind this one."""

    def __init__(self, taken, last, divisor):
        # Things that the sum cannot have, the thing that the next one is above, and the common
        # divisor of all numbers so far, 0 ahead of all.
        self.taken = taken
        self.last = last
        self.divisor = divisor
        self.start = None
        self.numbers = {}

    def goes_on(self):
        """Whether a further thing is left for this sum."""
        return free_name(self.last, self.taken) is not None

    def may_number(self, number):
        """Whether the number can stand ahead of some thing."""
        thing = free_name(self.last, self.taken)
        return number > 1 and thing is not None and self.may_end(gcd(self.divisor, number), thing)

    def may_thing(self, thing, number):
        """Whether the thing can stand with this number."""
        if not is_name(thing) or thing <= self.last or thing in self.taken:
            return False
        return self.may_end(gcd(self.divisor, number), thing)

    def may_end(self, divisor, thing):
        """Whether the text can end somewhere behind this thing with this divisor so far."""
        return True

    def may_stop(self):
        """Whether the sum can end here."""
        return True

    def put(self, thing, number):
        """Take a thing with its number."""
        if self.start is None:
            self.start = thing
        self.numbers[thing] = number
        self.last = thing
        self.divisor = gcd(self.divisor, number)


class FirstPart(Part):
    """A first sum behind which the second one has only things above its first thing."""

    def may_end(self, divisor, thing):
        """Whether the text can end somewhere behind this thing with this divisor so far."""
        if divisor == 1:
            return True
        left = free_name(thing if self.start is None else self.start, self.numbers)
        # Nothing of this sum is above its last thing.
        return left is not None and (left != thing or free_name(thing, {}) is not None)


class SecondPart(Part):
    """A second sum, which does not end with a common divisor of all numbers."""

    def may_end(self, divisor, thing):
        """Whether the text can end somewhere behind this thing with this divisor so far."""
        return divisor == 1 or free_name(thing, self.taken) is not None

    def may_stop(self):
        """Whether the sum can end here."""
        return self.divisor == 1


def read_sums(reader, kinds, known):
    """Read two sums with one of the kinds between them, of the known things alone unless that is None.

    Returned are a dict from things to integers, those of the second sum below 0, and the kind.
    """
    first = Part({}, "", 0) if ">" in kinds else FirstPart({}, "", 0)
    if reader.peek() == "0" and ">" in kinds:
        reader.step()
    else:
        _read_sum(reader, first, known)
    kind = _read_kind(reader, first, kinds)
    second = SecondPart(first.numbers, "" if kind in _UNTURNED else first.start, first.divisor)
    if reader.peek() == "0" and first.divisor == 1:
        reader.step()
    else:
        _read_sum(reader, second, known)
    return {**first.numbers, **{thing: -number for thing, number in second.numbers.items()}}, kind


def _read_kind(reader, first, kinds):
    """Read one of the kinds that can stand behind a first sum."""
    kind = reader.peek()
    if kind not in kinds or kind not in _UNTURNED and not _lets_turned(first):
        reader.refuse()
    reader.step()
    return kind


def _lets_turned(first):
    """Whether a second sum of things above the first one of a first sum can stand."""
    if first.start is None:
        return False
    return first.divisor == 1 or free_name(first.start, first.numbers) is not None


def _read_sum(reader, part, known):
    """Read one sum, up to where no plus follows."""
    _read_term(reader, part, known)
    while reader.peek() == "+" and part.goes_on():
        reader.step()
        _read_term(reader, part, known)
    if not part.may_stop():
        reader.refuse_last()


def _read_term(reader, part, known):
    """Read a number, unless it is 1, and a thing."""
    number = whole_in(reader.peek())
    if number is None:
        number = 1
    else:
        if not part.may_number(number):
            reader.refuse()
        reader.step()
    thing = reader.peek()
    if not part.may_thing(thing, number) or known is not None and thing not in known:
        reader.refuse()
    part.put(thing, number)
    reader.step()
