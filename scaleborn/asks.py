"""Asking: the fewest pairs whose outcomes settle a saying that a sort carries."""

from scaleborn.carried import Divided
from scaleborn.charts import OUTCOMES, charted
from scaleborn.checks import is_list, is_within
from scaleborn.errors import BadNumber, TooMany
from scaleborn.hulls import need_possible
from scaleborn.papers import Paper
from scaleborn.wordings import divided_in, need_by

_MOST_ASKED = 6


class Asking(Paper):
    """The least number of askings, a tree that does with it, a stall of one less, and a chart."""

    def __init__(self, number, tree, fewer, chart):
        super().__init__("asking", number, tree, fewer, chart)
        self.number, self.tree, self.fewer, self.chart = self.parts


class Game:
    """The askings of a sort's pairs. What is left is told by a mask that has a bit for each outcome list."""

    def __init__(self, fulls, truths):
        places = list(range(len(fulls[0])))
        self.held = sum([1 << number for number, truth in enumerate(truths) if truth])
        # For each pair, where it has the outcomes 1, 0 and -1.
        self.had = [[sum([1 << number for number, full in enumerate(fulls) if full[place] == outcome])
                     for outcome in OUTCOMES] for place in places]
        self.lengths = {}

    def is_settled(self, left):
        """Whether all that is left has one truth."""
        return left & self.held == 0 or left & self.held == left

    def askings(self, left):
        """How many askings settle what is left."""
        if left not in self.lengths:
            self.lengths[left] = 0 if self.is_settled(left) else min(
                [self._askings_by(left, number) for number in self._useful(left)])
        return self.lengths[left]

    def shortest_tree(self, left):
        """A shortest tree that settles what is left, None if that is nothing."""
        if left == 0:
            return None
        if self.is_settled(left):
            return left & self.held == left
        best = [number for number in self._useful(left) if self._askings_by(left, number) == self.askings(left)][0]
        return (best, *[self.shortest_tree(left & mask) for mask in self.had[best]])

    def stall_of(self, left, length, taken):
        """A stall of a length that does not settle what is left, these pairs having been asked."""
        if length == 0:
            return _first_in(left & self.held), _first_in(left & ~self.held)
        found = []
        for number in range(len(self.had)):
            if number not in taken:
                at = [self.askings(left & mask) >= length for mask in self.had[number]].index(True)
                further = self.stall_of(left & self.had[number][at], length - 1, [*taken, number])
                found.append((number, OUTCOMES[at], further))
        return tuple(found)

    def _useful(self, left):
        """The pairs that have several outcomes in what is left."""
        return [number for number, masks in enumerate(self.had) if left not in [left & mask for mask in masks]]

    def _askings_by(self, left, number):
        """How many askings settle what is left if this pair is asked first."""
        return 1 + max([self.askings(left & mask) for mask in self.had[number]])


def asked(book, saying, by):
    """The fewest askings of a sort's pairs that settle a saying, or two scales that agree on the sort and divide it."""
    need_by(book, saying, by)
    need_possible(book)
    if len(by) > _MOST_ASKED:
        raise TooMany("asked", _MOST_ASKED)
    chart = charted(book, asked_pairs(saying, by))
    fulls, truths = chart.cuts_by(chart.places_of(by.pairs)), chart.truths(saying)
    numbers = divided_in(fulls, truths)
    if numbers is not None:
        return Divided(chart.scales[numbers[0]], chart.scales[numbers[1]])
    game = Game(fulls, truths)
    everything = (1 << len(fulls)) - 1
    number = game.askings(everything)
    fewer = game.stall_of(everything, number - 1, []) if number > 0 else None
    return Asking(number, game.shortest_tree(everything), fewer, chart)


def settled_at(tree, outcomes):
    """Where an asking tree leads for the outcomes of the sort's pairs."""
    if not is_list(outcomes) or not all([is_within(outcome, -1, 1) for outcome in outcomes]):
        raise BadNumber("outcomes")
    here = tree
    while is_list(here):
        if here[0] >= len(outcomes):
            raise BadNumber("outcomes")
        here = here[1 + OUTCOMES.index(outcomes[here[0]])]
    return here


def asked_pairs(saying, by):
    """The pairs of a sort and, behind them, those of a saying that it lacks."""
    return [*by.pairs, *[pair for pair in saying.pairs if pair not in by]]


def _first_in(mask):
    """The number of the first list of a mask."""
    return (mask & -mask).bit_length() - 1
