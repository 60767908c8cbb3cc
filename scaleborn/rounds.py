"""Scales of books, and rounds, which show that there are none."""

from scaleborn.balances import wholes_of
from scaleborn.books import Book
from scaleborn.errors import BadBook
from scaleborn.papers import Denial, Paper
from scaleborn.scales import Scale
from scaleborn.solving import solved


class Fits(Paper):
    """A scale of a book."""

    def __init__(self, scale):
        super().__init__("fits", scale)
        self.scale = self.parts[0]


class Round(Denial):
    """Weights of a round of a book."""

    def __init__(self, weights):
        super().__init__("round", weights)
        self.weights = self.parts[0]


def fit(book):
    """A scale of a possible book, a round of an impossible one."""
    if not isinstance(book, Book):
        raise BadBook("book")
    return fit_rows(book.things, book.rows)


def is_possible(book):
    """Whether a book has a scale."""
    return bool(fit(book))


def fit_rows(things, rows):
    """A scale of these things that keeps the rows, of which there may be many, or a round of them."""
    wholes = [wholes_of(row.balance, things) for row in rows]
    numbers, weights = solved(wholes, [row.kind for row in rows], len(things))
    if numbers is None:
        return Round(weights)
    return Fits(Scale(dict(zip(things, numbers))))
