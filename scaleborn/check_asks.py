"""Checks of askings, and of rows that are taken back."""

from scaleborn.asks import Asking, asked_pairs
from scaleborn.books import Book
from scaleborn.carried import Divided
from scaleborn.charts import OUTCOMES
from scaleborn.check_charts import shows_chart
from scaleborn.check_rounds import are_weights
from scaleborn.check_said import are_ascending
from scaleborn.check_wordings import shows_carried
from scaleborn.checks import is_integer, is_within
from scaleborn.errors import BadBook
from scaleborn.mends import Mended, can_be_had
from scaleborn.scales import Scale
from scaleborn.wordings import need_by


class Replay:
    """What trees and stalls are looked at by: the full lists and the truths of a chart's outcome lists."""

    def __init__(self, fulls, truths):
        self.fulls = fulls
        self.held = truths
        self.many = len(fulls[0])

    def length_of(self, tree, left):
        """The length of any value that is a tree for the lists of these numbers; None for what is none."""
        if len(left) == 0:
            return 0 if tree is None else None
        if isinstance(tree, bool):
            return 0 if all([self.held[number] == tree for number in left]) else None
        if not isinstance(tree, tuple) or len(tree) != 4 or not is_within(tree[0], 0, self.many - 1):
            return None
        lengths = []
        for further, outcome in zip(tree[1:], OUTCOMES):
            lengths.append(self.length_of(further, [at for at in left if self.fulls[at][tree[0]] == outcome]))
        return None if None in lengths else 1 + max(lengths)

    def is_stall(self, value, length, told):
        """Whether any value is a stall of a length behind these outcomes, a dict from numbers of pairs."""
        if not isinstance(value, tuple):
            return False
        if length == 0:
            return self._divides(value, told)
        waiting = [number for number in range(self.many) if number not in told]
        if len(waiting) == 0 or len(value) != len(waiting):
            return False
        return all([self._goes_on(triple, number, length, told) for triple, number in zip(value, waiting)])

    def _goes_on(self, value, number, length, told):
        """Whether any value tells an outcome of this pair, and a stall behind it."""
        if not isinstance(value, tuple) or len(value) != 3:
            return False
        if not is_integer(value[0]) or value[0] != number or not is_within(value[1], -1, 1):
            return False
        return self.is_stall(value[2], length - 1, {**told, number: value[1]})

    def _divides(self, value, told):
        """Whether a tuple is a pair of lists that have these outcomes and divide the saying."""
        if len(value) != 2 or not all([is_within(at, 0, len(self.fulls) - 1) for at in value]):
            return False
        kept, broken = value
        if not all([self.fulls[at][number] == outcome for at in value for number, outcome in told.items()]):
            return False
        return self.held[kept] and not self.held[broken]


def shows_asked(book, saying, by, value):
    """Whether any value tells rightly how many askings settle a saying, or that the sort does not carry it."""
    need_by(book, saying, by)
    if type(value) is Divided:
        return shows_carried(book, saying, by, value)
    if type(value) is not Asking or not shows_chart(book, asked_pairs(saying, by), value.chart):
        return False
    chart = value.chart
    fulls, truths = chart.cuts_by(chart.places_of(by.pairs)), chart.truths(saying)
    replay = Replay(fulls, truths)
    # Lists that agree on the sort come to one place of the tree: that it settles the saying shows their one truth, too.
    if not is_integer(value.number) or replay.length_of(value.tree, list(range(len(fulls)))) != value.number:
        return False
    return value.fewer is None if value.number == 0 else replay.is_stall(value.fewer, value.number - 1, {})


def shows_mended(book, value):
    """Whether any value tells rightly the fewest rows to be taken back."""
    if not isinstance(book, Book):
        raise BadBook("book")
    if type(value) is not Mended or not are_ascending(value.taken, len(book.rows)):
        return False
    if not isinstance(value.scale, Scale) or value.scale.things != book.things:
        return False
    if not all([value.scale.keeps(row) for number, row in enumerate(book.rows) if number not in value.taken]):
        return False
    if not isinstance(value.rounds, tuple) or not all([_is_round(book, weights) for weights in value.rounds]):
        return False
    return len(value.taken) == 0 or not can_be_had(value.rounds, len(book.rows), len(value.taken) - 1)


def _is_round(book, value):
    """Whether any value is the weights of a round of the book."""
    return are_weights(book.things, book.rows, value)
