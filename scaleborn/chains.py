"""Several hands in a row: the fewest that clash, and the links between them."""

from scaleborn.books import Book
from scaleborn.checks import is_list
from scaleborn.choosing import ascending
from scaleborn.errors import BadHands, TooMany
from scaleborn.hands import Together, comparison_of, need_few_things
from scaleborn.hulls import need_possible
from scaleborn.papers import Paper
from scaleborn.rounds import fit_rows

_MOST_HANDS = 4


class Chain(Paper):
    """The links between hands that clash, and how often each row of each hand is used."""

    def __init__(self, links, weights):
        super().__init__("chain", links, weights)
        self.links, self.weights = self.parts


def chain_of(hands):
    """The chain of the fewest first hands that clash, or a scale at which all are together."""
    things = _need_row(hands)
    for many in range(2, len(hands) + 1):
        paper = fit_rows(things, rows_of(hands[:many]))
        if not paper:
            weights = _parted(hands[:many], paper.weights)
            return Chain(links_of(hands, weights), weights)
    # There are two hands or more, so the last paper is that of all of them.
    return Together(paper.scale)


def clashing_hands(hands):
    """The numbers of the fewest hands that clash, () if all are together."""
    things = _need_row(hands)
    for many in range(2, len(hands) + 1):
        for numbers in ascending(len(hands), many):
            if not fit_rows(things, rows_of([hands[number] for number in numbers])):
                return numbers
    return ()


def links_of(hands, weights):
    """What the rows of the first hands, one and more but not all, used so often, make sure of."""
    links = []
    for many in range(1, len(weights)):
        used = [weight for some in weights[:many] for weight in some]
        links.append(comparison_of(rows_of(hands[:many]), used))
    return links


def rows_of(hands):
    """The rows of hands, one after another."""
    return [row for hand in hands for row in hand.rows]


def need_hands(hands):
    """Raise BadHands for what is no list of two books or more."""
    if not is_list(hands) or len(hands) < 2 or not all([isinstance(hand, Book) for hand in hands]):
        raise BadHands("hands")


def _need_row(hands):
    """All things of the hands; raise what stands against laying them in a row."""
    need_hands(hands)
    for hand in hands:
        need_possible(hand)
    if len(hands) > _MOST_HANDS:
        raise TooMany("hands", _MOST_HANDS)
    return need_few_things(hands)


def _parted(hands, weights):
    """The weights of all rows, hand by hand."""
    parts = []
    start = 0
    for hand in hands:
        parts.append(weights[start:start + len(hand.rows)])
        start = start + len(hand.rows)
    return parts
