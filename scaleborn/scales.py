"""Scales: a worth for each of some things."""

from scaleborn.balances import Balance
from scaleborn.checks import are_names, is_name, need_different, need_things
from scaleborn.comparisons import Comparison, Pair, is_kept
from scaleborn.errors import BadBalance, BadComparison, BadNumber, BadPair, BadScale, Unlike
from scaleborn.ratios import Ratio, is_ratio, numbers_in, ratio_in
from scaleborn.reading import reader_of
from scaleborn.sorts import Sort, are_pairs


class Scale:
    """A ratio, perhaps 0, for each of some things."""

    def __init__(self, numbers):
        told = numbers_in(numbers)
        if told is None:
            raise BadScale("numbers")
        self._worths = told
        self.things = tuple(told)

    @classmethod
    def read(cls, text):
        """The scale with this text."""
        reader = reader_of(text)
        if reader.is_alone("-"):
            return cls({})
        worths = {}
        last = _read_worth(reader, worths, "")
        while reader.peek() != "":
            last = _read_worth(reader, worths, last)
        reader.finish()
        return cls(worths)

    def worth(self, balance):
        """The sum of the worths of the balance's things, each times its number."""
        if not isinstance(balance, Balance):
            raise BadBalance("balance")
        need_things(self._worths, balance.things)
        total = Ratio(0)
        for thing in balance.things:
            total = total + balance.number_of(thing) * self._worths[thing]
        return total

    def outcome(self, pair):
        """1, 0 or -1: the first sum is worth more, as much, less."""
        if not isinstance(pair, Pair):
            raise BadPair("pair")
        return self.worth(pair.balance).sign

    def keeps(self, comparison):
        """Whether it keeps the comparison."""
        if not isinstance(comparison, Comparison):
            raise BadComparison("comparison")
        return is_kept(comparison.kind, self.worth(comparison.balance).sign)

    def outcomes(self, pairs):
        """The tuple of the outcomes of a sort, or of a list of pairs."""
        if isinstance(pairs, Sort):
            return tuple([self.outcome(pair) for pair in pairs.pairs])
        if not are_pairs(pairs):
            raise BadPair("pairs")
        return tuple([self.outcome(pair) for pair in pairs])

    def only(self, things):
        """The scale of these things alone."""
        if not are_names(things):
            raise BadBalance("things")
        need_different(things)
        need_things(self._worths, things)
        return Scale({thing: self._worths[thing] for thing in things})

    def __mul__(self, other):
        if not is_ratio(other):
            raise BadNumber("ratio")
        return Scale({thing: worth * other for thing, worth in self._worths.items()})

    def __add__(self, other):
        if not isinstance(other, Scale):
            raise BadScale("other")
        if self.things != other.things:
            raise Unlike("things")
        return Scale({thing: self._worths[thing] + other._worths[thing] for thing in self.things})

    def __eq__(self, other):
        return isinstance(other, Scale) and self._worths == other._worths

    def __str__(self):
        return str(_written(self))


def _written(scale):
    """The text of a scale."""
    if len(scale.things) == 0:
        return "-"
    return " ".join([f"{thing} {scale.worth(Balance.of(thing))}" for thing in scale.things])


def _read_worth(reader, worths, last):
    """Read a thing above the last one, and its worth; the thing is returned."""
    thing = reader.peek()
    if not is_name(thing) or thing <= last:
        reader.refuse()
    reader.step()
    worth = ratio_in(reader.peek())
    if worth is None:
        reader.refuse()
    worths[thing] = worth
    reader.step()
    return thing
