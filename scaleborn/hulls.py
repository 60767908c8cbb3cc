"""What is alike at all scales of a book, and which pairs are open."""

from scaleborn.balances import Balance, wholes_of
from scaleborn.books import Book
from scaleborn.checks import need_things
from scaleborn.comparisons import Comparison, Pair
from scaleborn.errors import BadBalance, BadBook, BadPair, Impossible
from scaleborn.papers import Denial, Paper
from scaleborn.rounds import fit, fit_rows
from scaleborn.solving import divided


class Opened(Paper):
    """Scales of a book at which a pair has the outcomes 1 and -1."""

    def __init__(self, more, less):
        super().__init__("opened", more, less)
        self.more, self.less = self.parts


class Shut(Denial):
    """An outcome that a pair has at no scale, and the weights of a round that show it."""

    def __init__(self, outcome, weights):
        super().__init__("shut", outcome, weights)
        self.outcome, self.weights = self.parts


def alikes(book):
    """The reduced balances of which each balance held alike is a sum of multiples."""
    need_possible(book)
    return reduced_alikes(book)


def swept(book, balance):
    """The balance less something held alike, without a first thing of the alikes."""
    _need_balance(book, balance, "balance")
    need_things(book.things, balance.things)
    return swept_by(alikes(book), balance)


def is_held_alike(book, balance):
    """Whether the worth of a balance is 0 at all scales."""
    return swept(book, balance).is_nothing


def are_one(book, one, other):
    """Whether two balances are one in the book."""
    _need_balance(book, one, "one")
    _need_balance(book, other, "other")
    need_things(book.things, one.things)
    need_things(book.things, other.things)
    held = alikes(book)
    left, right = swept_by(held, one), swept_by(held, other)
    return not left.is_nothing and not right.is_nothing and Pair(left) == Pair(right)


def open_scales(book, pair):
    """Scales at which the pair has the outcomes 1 and -1, or one of these that it never has."""
    need_pair(book, pair)
    need_possible(book)
    more = fit_rows(book.things, [*book.rows, pair.as_rows(1)])
    if not more:
        return Shut(1, more.weights)
    less = fit_rows(book.things, [*book.rows, pair.as_rows(-1)])
    return Opened(more.scale, less.scale) if less else Shut(-1, less.weights)


def is_open(book, pair):
    """Whether a pair is open."""
    return bool(open_scales(book, pair))


def need_possible(book):
    """Raise what stands against asking for scales of the book."""
    paper = fit(book)
    if not paper:
        raise Impossible(paper)


def need_pair(book, pair):
    """Raise what stands against asking the book for outcomes of the pair."""
    if not isinstance(book, Book):
        raise BadBook("book")
    if not isinstance(pair, Pair):
        raise BadPair("pair")
    need_things(book.things, pair.things)


def reduced_alikes(book):
    """The alikes of a book that is known to be possible."""
    rows = []
    for row in book.rows:
        if row.kind == "=" or row.kind == ">=" and not _can_be_above(book, row):
            rows = _with_row(rows, wholes_of(row.balance, book.things))
    rows = sorted([[_lead(row), row] for row in rows])
    return tuple([Balance(dict(zip(book.things, row))) for _, row in rows])


def swept_by(held, balance):
    """The balance without the first things of reduced balances held alike."""
    left = balance
    for alike in held:
        thing = alike.things[0]
        left = left - alike * left.number_of(thing).over(alike.number_of(thing))
    return left


def _need_balance(book, balance, part):
    """Raise what is wrong with a book and a balance by themselves."""
    if not isinstance(book, Book):
        raise BadBook("book")
    if not isinstance(balance, Balance):
        raise BadBalance(part)


def _can_be_above(book, row):
    """Whether some scale of the book has a worth above 0 for the balance of the row."""
    return bool(fit_rows(book.things, [*book.rows, Comparison(row.balance, ">")]))


def _with_row(rows, row):
    """Rows of integers, none with a number where another one begins, with one row more."""
    for other in rows:
        row = _without_lead(row, other)
    if not any(row):
        return rows
    if row[_lead(row)] < 0:
        row = [-number for number in row]
    return [_without_lead(other, row) for other in rows] + [divided(row)]


def _without_lead(row, other):
    """The row, less so much of the other one that it has no number where that one begins."""
    lead = _lead(other)
    if row[lead] == 0:
        return row
    return divided([mine * other[lead] - its * row[lead] for mine, its in zip(row, other)])


def _lead(row):
    """Where the row has its first number other than 0."""
    return [number != 0 for number in row].index(True)
