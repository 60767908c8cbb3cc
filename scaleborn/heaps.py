"""Heaps: things of one matched with things of another one by their order alone."""

from scaleborn.checks import are_names, is_integer, is_name, need_different, need_things
from scaleborn.errors import BadBalance, Unlike
from scaleborn.orders import need_form, need_order, places_in
from scaleborn.papers import Denial, Paper


class Matching(Paper):
    """Pairs of a thing of the first heap and one of the second that is in no earlier class."""

    def __init__(self, pairs):
        super().__init__("matching", pairs)
        self.pairs = self.parts[0]


class Short(Denial):
    """A number of first classes in which the second heap has more things."""

    def __init__(self, number):
        super().__init__("short", number)
        self.number = self.parts[0]


def heap_matched(order, ones, others):
    """A matching of two heaps, or the least number of classes that shows that there is none."""
    need_order(order)
    _need_heaps(order, ones, others)
    for number in range(1, len(order) + 1):
        if _is_short(order, ones, others, number):
            return Short(number)
    return Matching(list(zip(_from_greatest(order, ones), _from_greatest(order, others))))


def shows_matched(order, ones, others, value):
    """Whether any value is a right matching, or tells rightly that there is none."""
    need_form(order)
    _need_heaps(order, ones, others)
    if type(value) is Short:
        return is_integer(value.number) and value.number > 0 and _is_short(order, ones, others, value.number)
    if type(value) is not Matching or not _are_pairs_of_names(value.pairs):
        return False
    firsts, seconds = [first for first, _ in value.pairs], [second for _, second in value.pairs]
    if sorted(firsts) != sorted(list(ones)) or sorted(seconds) != sorted(list(others)):
        return False
    places = places_in(order)
    return all([places[first] <= places[second] for first, second in value.pairs])


def _need_heaps(order, ones, others):
    """Raise what is wrong with two heaps of things of an order."""
    places = places_in(order)
    _need_heap(places, ones, "ones")
    _need_heap(places, others, "others")
    if len(ones) != len(others):
        raise Unlike("heaps")


def _need_heap(places, heap, part):
    """Raise what is wrong with a heap of things that have places."""
    if not are_names(heap) or len(heap) == 0:
        raise BadBalance(part)
    need_different(heap)
    need_things(places, heap)


def _is_short(order, ones, others, number):
    """Whether the second heap has more things in the first so many classes."""
    first = [thing for together in order[:number] for thing in together]
    return len([thing for thing in ones if thing in first]) < len([thing for thing in others if thing in first])


def _from_greatest(order, heap):
    """The things of a heap, class by class."""
    return [thing for together in order for thing in together if thing in heap]


def _are_pairs_of_names(value):
    """Whether any value is a tuple of pairs of names."""
    if not isinstance(value, tuple) or not all([isinstance(pair, tuple) and len(pair) == 2 for pair in value]):
        return False
    return all([is_name(first) and is_name(second) for first, second in value])
