"""Sayings: what holds at a scale or fails."""

from scaleborn.checks import is_list, is_naming, is_within, need_things
from scaleborn.comparisons import Comparison, is_kept
from scaleborn.errors import BadComparison, BadNumber, BadSaying, BadScale, NoPair
from scaleborn.saying_parts import are_parts, different_pairs, formed, laid_together, renamed_part, truth_of
from scaleborn.saying_texts import read_parts, written
from scaleborn.scales import Scale


class Saying:
    """A saying, kept as parts in one form."""

    def __init__(self, parts):
        if not are_parts(parts):
            raise BadSaying("parts")
        self.parts = formed(parts)
        self.comparisons = tuple([part[1] for part in self.parts if part[0] == "holds"])
        pairs, turns = different_pairs(self.comparisons)
        self.pairs = tuple(pairs)
        self._turns = tuple(turns)
        self.things = tuple(sorted(set([thing for pair in pairs for thing in pair.things])))

    @classmethod
    def read(cls, text):
        """The saying with this text."""
        return cls(read_parts(text))

    def holds(self, scale):
        """Whether it holds at a scale, perhaps of further things."""
        if not isinstance(scale, Scale):
            raise BadScale("scale")
        need_things(scale.things, self.things)
        return self.truth_at([scale.outcome(pair) for pair in self.pairs])

    def truth_by(self, outcomes):
        """Whether it holds where its pairs have these outcomes, told by their texts."""
        if not isinstance(outcomes, dict) or not all([is_within(told, -1, 1) for told in outcomes.values()]):
            raise BadNumber("outcomes")
        texts = [str(pair) for pair in self.pairs]
        for text in texts:
            if text not in outcomes:
                raise NoPair(text)
        return self.truth_at([outcomes[text] for text in texts])

    def renamed(self, names):
        """The saying with its things under other names, perhaps several under one."""
        if not is_naming(names):
            raise BadSaying("names")
        return Saying([renamed_part(part, names) for part in self.parts])

    def truth_at(self, outcomes):
        """Whether it holds where its pairs, in their order, have these outcomes."""
        kept = [is_kept(comparison.kind, outcomes[number] * turn)
                for comparison, (number, turn) in zip(self.comparisons, self._turns)]
        return truth_of(self.parts, kept)

    def __and__(self, other):
        return _beside("and", self, other)

    def __or__(self, other):
        return _beside("or", self, other)

    def __invert__(self):
        return Saying(laid_together([self.parts], ("not",)))

    def __len__(self):
        return len(self.parts)

    def __eq__(self, other):
        return isinstance(other, Saying) and self.parts == other.parts

    def __str__(self):
        return str(written(self.parts))


def yes():
    """The saying that always holds."""
    return Saying([("and",)])


def no():
    """The saying that never holds."""
    return Saying([("or",)])


def of_comparison(comparison):
    """The saying that holds at the scales that keep the comparison."""
    if not isinstance(comparison, Comparison):
        raise BadComparison("comparison")
    return Saying([("holds", comparison)])


def both_of(sayings):
    """The and of all in a list."""
    _need_sayings(sayings)
    return sayings[0] if len(sayings) == 1 else _laid(("and",), sayings)


def either_of(sayings):
    """The or of all in a list."""
    _need_sayings(sayings)
    return sayings[0] if len(sayings) == 1 else _laid(("or",), sayings)


def at_least(number, sayings):
    """The saying that at least so many of a list hold."""
    if not is_within(number, 0, None):
        raise BadNumber("number")
    _need_sayings(sayings)
    return _laid(("some", number), sayings)


def exactly(number, sayings):
    """The saying that just so many of a list hold."""
    return at_least(number, sayings) & ~at_least(number + 1, sayings)


def _need_sayings(sayings):
    """Raise BadSaying for what is no list of sayings."""
    if not is_list(sayings) or not all([isinstance(saying, Saying) for saying in sayings]):
        raise BadSaying("sayings")


def _laid(head, sayings):
    """The saying of one part of this head over all in a list."""
    return Saying(laid_together([saying.parts for saying in sayings], head))


def _beside(word, one, other):
    """The saying of one part of this word over two sayings."""
    if not isinstance(other, Saying):
        raise BadSaying("other")
    return _laid((word,), [one, other])
