"""Comparisons, and pairs of sums."""

from scaleborn.balances import Balance
from scaleborn.checks import is_within
from scaleborn.errors import BadBalance, BadComparison, BadNumber, BadPair
from scaleborn.reading import reader_of
from scaleborn.sums import read_sums

KINDS = (">", ">=", "=")


class Comparison:
    """A balance in least terms and a kind."""

    def __init__(self, balance, kind):
        if not isinstance(balance, Balance):
            raise BadBalance("balance")
        if balance.is_nothing:
            raise BadComparison("balance")
        if not is_kind(kind):
            raise BadComparison("kind")
        self.balance = _gaining(balance.least()) if kind == "=" else balance.least()
        self.kind = kind
        self.things = self.balance.things
        self.pair = Pair(self.balance)

    @classmethod
    def read(cls, text):
        """The comparison with this text."""
        reader = reader_of(text)
        comparison = read_comparison(reader, None)
        reader.finish()
        return cls(comparison.balance, comparison.kind)

    def contraries(self):
        """The comparisons of which a scale keeps just one if it does not keep this one."""
        if self.kind == ">":
            return (Comparison(-self.balance, ">="),)
        if self.kind == ">=":
            return (Comparison(-self.balance, ">"),)
        return (Comparison(self.balance, ">"), Comparison(-self.balance, ">"))

    def __eq__(self, other):
        return isinstance(other, Comparison) and self.kind == other.kind and self.balance == other.balance

    def __str__(self):
        return f"{self.balance.gains()} {self.kind} {self.balance.losses()}"


class Pair:
    """Two sums that are laid against one another."""

    def __init__(self, balance):
        if not isinstance(balance, Balance):
            raise BadBalance("balance")
        if balance.is_nothing:
            raise BadPair("balance")
        self.balance = _gaining(balance.least())
        self.first = self.balance.gains()
        self.second = self.balance.losses()
        self.things = self.balance.things

    @classmethod
    def read(cls, text):
        """The pair with this text."""
        reader = reader_of(text)
        pair = read_pair(reader)
        reader.finish()
        return cls(pair.balance)

    def as_rows(self, outcome):
        """The comparison that just the scales with this outcome keep."""
        if not is_within(outcome, -1, 1):
            raise BadNumber("outcome")
        if outcome == 0:
            return Comparison(self.balance, "=")
        return Comparison(self.balance * outcome, ">")

    def __eq__(self, other):
        return isinstance(other, Pair) and self.balance == other.balance

    def __str__(self):
        return f"{self.first} : {self.second}"


def compared(one, kind, other):
    """The comparison of one less other."""
    if not isinstance(one, Balance):
        raise BadBalance("one")
    if not is_kind(kind):
        raise BadComparison("kind")
    if not isinstance(other, Balance):
        raise BadBalance("other")
    return Comparison(one - other, kind)


def is_kind(value):
    """Whether any value is the kind of a comparison."""
    return isinstance(value, str) and value in KINDS


def is_kept(kind, sign):
    """Whether a comparison of this kind is kept where its balance's worth has this sign."""
    return sign == 0 if kind == "=" else sign > 0 or sign == 0 and kind == ">="


def read_comparison(reader, known):
    """Read a comparison, of the known things alone unless that is None."""
    numbers, kind = read_sums(reader, KINDS, known)
    return Comparison(Balance(numbers), kind)


def read_pair(reader):
    """Read a pair."""
    numbers, _ = read_sums(reader, (":",), None)
    return Pair(Balance(numbers))


def _gaining(balance):
    """The balance, turned if the number of its first thing is below 0."""
    return -balance if balance.number_of(balance.things[0]).sign < 0 else balance
