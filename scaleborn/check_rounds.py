"""Checks of the papers of rounds and hulls, by adding up and by putting scales in."""

from scaleborn.balances import wholes_of
from scaleborn.books import Book
from scaleborn.checks import is_integer
from scaleborn.errors import BadBook
from scaleborn.hulls import Opened, Shut, need_pair
from scaleborn.rounds import Fits, Round
from scaleborn.scales import Scale


def shows_fit(book, value):
    """Whether any value is a Fits with a scale of the book, or a Round of it."""
    if not isinstance(book, Book):
        raise BadBook("book")
    if type(value) is Fits:
        return is_scale_of(book, value.scale)
    return type(value) is Round and are_weights(book.things, book.rows, value.weights)


def shows_open(book, pair, value):
    """Whether any value is an Opened with scales that have the pair's outcomes 1 and -1, or a right Shut."""
    need_pair(book, pair)
    if type(value) is Opened:
        return _has_outcome(book, pair, value.more, 1) and _has_outcome(book, pair, value.less, -1)
    if type(value) is not Shut or not is_integer(value.outcome) or value.outcome not in (1, -1):
        return False
    return are_weights(book.things, [*book.rows, pair.as_rows(value.outcome)], value.weights)


def is_scale_of(book, value):
    """Whether any value is a scale of the book."""
    return isinstance(value, Scale) and value.things == book.things and book.keeps(value)


def are_weights(things, rows, value):
    """Whether any value is the weights of a round of these rows, of which there may be many."""
    return are_weights_of([wholes_of(row.balance, things) for row in rows], [row.kind for row in rows], value)


def are_weights_of(wholes, kinds, value):
    """Whether any value is the weights of a round of rows that are told as lists of integers and kinds."""
    if not isinstance(value, tuple) or len(value) != len(wholes):
        return False
    if not all([is_integer(weight) for weight in value]):
        return False
    if not all([weight >= 0 or kind == "=" for weight, kind in zip(value, kinds)]):
        return False
    if not any([weight > 0 and kind == ">" for weight, kind in zip(value, kinds)]):
        return False
    columns = [[weight * number for number in whole] for weight, whole in zip(value, wholes)]
    return not any([sum(numbers) for numbers in zip(*columns)])


def _has_outcome(book, pair, value, outcome):
    """Whether any value is a scale of the book at which the pair has this outcome."""
    return is_scale_of(book, value) and value.outcome(pair) == outcome
