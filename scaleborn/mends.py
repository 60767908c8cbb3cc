"""Taking back: the fewest rows without which a book is possible."""

from scaleborn.books import Book
from scaleborn.choosing import ascending
from scaleborn.errors import BadBook, TooMany
from scaleborn.papers import Paper
from scaleborn.rounds import fit_rows

_MOST_TAKEN = 3


class Mended(Paper):
    """The rows to be taken back, a scale that keeps all others, and rounds that show that no fewer do."""

    def __init__(self, taken, scale, rounds):
        super().__init__("mended", taken, scale, rounds)
        self.taken, self.scale, self.rounds = self.parts


def mended(book):
    """The fewest rows without which a book is possible, and what shows it."""
    if not isinstance(book, Book):
        raise BadBook("book")
    rounds = []
    for count in range(_MOST_TAKEN + 1):
        ahead = list(rounds)
        for taken in ascending(len(book.rows), count):
            if have_all(rounds, taken):
                paper = _fit_without(book, taken)
                if paper:
                    return Mended(taken, paper.scale, _needed(ahead, len(book.rows), count))
                rounds.append(_spread(paper.weights, taken))
    raise TooMany("taken", _MOST_TAKEN)


def have_all(rounds, rows):
    """Whether each of the rounds has one of these rows."""
    return all([any([weights[row] != 0 for row in rows]) for weights in rounds])


def can_be_had(rounds, many, count):
    """Whether so many of all rows have one of each round."""
    return any([have_all(rounds, rows) for rows in ascending(many, count)])


def _fit_without(book, taken):
    """A scale that keeps all other rows, or a round of them."""
    return fit_rows(book.things, [row for number, row in enumerate(book.rows) if number not in taken])


def _spread(weights, taken):
    """The weights of a round without these rows as weights of all rows."""
    found = list(weights)
    for number in taken:
        found.insert(number, 0)
    return tuple(found)


def _needed(rounds, many, count):
    """Rounds none of which can be left out, such that no fewer than so many rows have one of each."""
    left = list(rounds)
    for weights in rounds:
        fewer = [other for other in left if other != weights]
        if not can_be_had(fewer, many, count - 1):
            left = fewer
    return left
