"""Checks of charts, by adding up and by putting scales in."""

from scaleborn.balances import wholes_of
from scaleborn.charts import Chart, are_outcomes, book_rows, need_told_pairs, outcome_row
from scaleborn.check_rounds import are_weights_of, is_scale_of
from scaleborn.checks import is_within
from scaleborn.sorts import are_pairs


class Ground:
    """What the trees of a chart are looked at by."""

    def __init__(self, book, pairs, lists):
        self.rows, self.kinds = book_rows(book)
        self.columns = [wholes_of(pair.balance, book.things) for pair in pairs]
        self.lists = lists

    def bears(self, tree, outcomes):
        """Whether any value is a tree that may stand behind these outcomes."""
        if not isinstance(tree, tuple) or len(tree) == 0 or not isinstance(tree[0], str):
            return False
        if tree[0] == "branch":
            return len(tree) == 4 and self._parts(outcomes) and all(
                [self.bears(further, (*outcomes, outcome)) for further, outcome in zip(tree[1:], (1, 0, -1))])
        if len(tree) != 2:
            return False
        if tree[0] == "barred":
            return self._bars(tree[1], outcomes)
        return tree[0] == "list" and is_within(tree[1], 0, len(self.lists) - 1) and self.lists[tree[1]] == outcomes

    def _parts(self, outcomes):
        """Whether some outcome list goes on behind these outcomes."""
        if len(outcomes) == len(self.columns):
            return False
        return outcomes in [told[:len(outcomes)] for told in self.lists]

    def _bars(self, weights, outcomes):
        """Whether the weights show that no scale of the book has these outcomes."""
        added = [outcome_row(column, outcome) for column, outcome in zip(self.columns, outcomes)]
        return are_weights_of([*self.rows, *[row for row, _ in added]],
                              [*self.kinds, *[kind for _, kind in added]], weights)


def shows_chart(book, pairs, value):
    """Whether any value is a right chart of the book for these pairs."""
    return _is_right(book, need_told_pairs(book, pairs), value)


def is_chart_of(book, value):
    """Whether any value is a chart that is right for the book and its own pairs, whatever these are."""
    if type(value) is not Chart or not are_pairs(value.pairs):
        return False
    if len(set([pair.balance.key for pair in value.pairs])) < len(value.pairs):
        return False
    if not all([thing in book.things for pair in value.pairs for thing in pair.things]):
        return False
    return _is_right(book, value.pairs, value)


def has_pairs(chart, pairs):
    """Whether a chart has all these pairs."""
    return all([pair in chart.pairs for pair in pairs])


def _is_right(book, pairs, value):
    """Whether any value is a right chart of the book for these different pairs."""
    if type(value) is not Chart or not are_pairs(value.pairs) or value.pairs != pairs:
        return False
    return (_are_lists(value.lists, len(pairs)) and _are_had(book, pairs, value.lists, value.scales)
            and Ground(book, pairs, value.lists).bears(value.tree, ()))


def _are_lists(value, many):
    """Whether any value is a tuple of one outcome list or more, descending."""
    if not isinstance(value, tuple) or len(value) == 0:
        return False
    if not all([are_outcomes(told, many) for told in value]):
        return False
    return all([value[at] > value[at + 1] for at in range(len(value) - 1)])


def _are_had(book, pairs, lists, value):
    """Whether any value is a tuple of scales of the book that have these outcome lists."""
    if not isinstance(value, tuple) or len(value) != len(lists):
        return False
    return all([is_scale_of(book, scale) and scale.outcomes(pairs) == told for scale, told in zip(value, lists)])
