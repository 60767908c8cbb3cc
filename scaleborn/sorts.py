"""Sorts: lists of different pairs."""

from scaleborn.checks import is_list, is_within, need_different
from scaleborn.comparisons import Pair, read_pair
from scaleborn.errors import BadNumber, BadPair, BadSort, TooMany
from scaleborn.reading import reader_of

_MOST_PAIRS = 15


class Sort:
    """A list of different pairs."""

    def __init__(self, pairs):
        if not are_pairs(pairs):
            raise BadPair("pairs")
        texts = [str(pair) for pair in pairs]
        need_different(texts)
        if len(pairs) > _MOST_PAIRS:
            raise TooMany("pairs", _MOST_PAIRS)
        self.pairs = tuple(pairs)
        self._texts = {text: True for text in texts}
        self.things = tuple(sorted(set([thing for pair in pairs for thing in pair.things])))

    @classmethod
    def read(cls, text):
        """The sort with this text."""
        reader = reader_of(text)
        if reader.is_alone("-"):
            return cls([])
        texts = {}
        pairs = [_read_new(reader, texts)]
        while reader.peek() == "," and len(pairs) < _MOST_PAIRS:
            reader.step()
            pairs.append(_read_new(reader, texts))
        reader.finish()
        return cls(pairs)

    def only(self, numbers):
        """The sort of the pairs with these indexes."""
        if not _are_different(numbers, len(self.pairs)):
            raise BadNumber("numbers")
        return Sort([self.pairs[number] for number in numbers])

    def __len__(self):
        return len(self.pairs)

    def __iter__(self):
        return iter(self.pairs)

    def __contains__(self, x):
        return isinstance(x, Pair) and str(x) in self._texts

    def __add__(self, other):
        if not isinstance(other, Sort):
            raise BadSort("other")
        return Sort(list(self.pairs) + [pair for pair in other.pairs if str(pair) not in self._texts])

    def __eq__(self, other):
        return isinstance(other, Sort) and self.pairs == other.pairs

    def __str__(self):
        return str(_written(self.pairs))


def are_pairs(value):
    """Whether any value is a list or a tuple of Pairs."""
    return is_list(value) and all([isinstance(item, Pair) for item in value])


def told_pairs(value):
    """The tuple of the pairs of a sort, or of a list of different pairs."""
    if isinstance(value, Sort):
        return value.pairs
    if not are_pairs(value):
        raise BadPair("pairs")
    need_different([str(pair) for pair in value])
    return tuple(value)


def each_once(pairs):
    """Each different pair once, in the order in which they come."""
    found = {str(pair): pair for pair in pairs}
    return list(found.values())


def _are_different(numbers, many):
    """Whether any value is a list of different integers from 0 to below many."""
    if not is_list(numbers) or not all([is_within(number, 0, many - 1) for number in numbers]):
        return False
    return len(set(numbers)) == len(numbers)


def _read_new(reader, texts):
    """Read a pair that is none of the texts, and put it among them."""
    pair = read_pair(reader)
    if str(pair) in texts:
        reader.refuse_last()
    texts[str(pair)] = True
    return pair


def _written(pairs):
    """The text of a sort."""
    return " , ".join([str(pair) for pair in pairs]) if len(pairs) > 0 else "-"
