"""Books: things and comparisons of them."""

from scaleborn.balances import Balance
from scaleborn.checks import are_names, is_list, is_name, is_naming, is_within, need_different, need_things
from scaleborn.comparisons import Comparison, read_comparison
from scaleborn.errors import BadBook, BadNumber, BadScale, TooMany
from scaleborn.reading import reader_of
from scaleborn.scales import Scale


class Book:
    """Things, and rows: comparisons over them."""

    MOST_THINGS = 6
    MOST_ROWS = 16

    def __init__(self, things, rows=()):
        if not are_names(things) or len(things) == 0:
            raise BadBook("things")
        need_different(things)
        if not is_list(rows) or not all([isinstance(row, Comparison) for row in rows]):
            raise BadBook("rows")
        for row in rows:
            need_things(things, row.things)
        if len(things) > Book.MOST_THINGS:
            raise TooMany("things", Book.MOST_THINGS)
        if len(rows) > Book.MOST_ROWS:
            raise TooMany("rows", Book.MOST_ROWS)
        self.things = tuple(sorted(list(things)))
        self.rows = tuple(rows)
        self.is_strict = all([row.kind != ">=" for row in rows])

    @classmethod
    def read(cls, text):
        """The book with this text."""
        reader = reader_of(text)
        things = _read_things(reader)
        reader.take("|")
        if reader.is_alone("-"):
            return cls(things)
        rows = [read_comparison(reader, things)]
        while reader.peek() == "," and len(rows) < Book.MOST_ROWS:
            reader.step()
            rows.append(read_comparison(reader, things))
        reader.finish()
        return cls(things, rows)

    def keeps(self, scale):
        """Whether a scale, perhaps of further things, keeps all rows."""
        if not isinstance(scale, Scale):
            raise BadScale("scale")
        need_things(scale.things, self.things)
        return all([scale.keeps(row) for row in self.rows])

    def with_rows(self, *rows):
        """The book with these rows behind its own."""
        return Book(self.things, [*self.rows, *rows])

    def without(self, *numbers):
        """The book without the rows of these numbers."""
        if not all([is_within(number, 0, len(self.rows) - 1) for number in numbers]):
            raise BadNumber("numbers")
        return Book(self.things, [row for number, row in enumerate(self.rows) if number not in numbers])

    def joined(self, other):
        """The book with the things and the rows of both."""
        if not isinstance(other, Book):
            raise BadBook("other")
        return Book(_together(self.things, other.things), [*self.rows, *other.rows])

    def with_things(self, *things):
        """The book with these things, too."""
        if not are_names(things):
            raise BadBook("things")
        return Book(_together(self.things, things), self.rows)

    def above_nothing(self):
        """The book with a row more for each thing: it is above nothing."""
        above = [Comparison(Balance.of(thing), ">") for thing in self.things]
        return Book(self.things, [*self.rows, *above])

    def renamed(self, names):
        """The book with some things under other names."""
        if not is_naming(names):
            raise BadBook("names")
        need_things(self.things, sorted(list(names)))
        things = [names.get(thing, thing) for thing in self.things]
        need_different(things)
        return Book(things, [Comparison(row.balance.renamed(names), row.kind) for row in self.rows])

    def __len__(self):
        return len(self.rows)

    def __eq__(self, other):
        return isinstance(other, Book) and self.things == other.things and self.rows == other.rows

    def __str__(self):
        return str(_written(self))


def _together(things, others):
    """Each thing of both lists once."""
    return sorted(set([*things, *others]))


def _written(book):
    """The text of a book."""
    things = " ".join(book.things)
    rows = " , ".join([str(row) for row in book.rows]) if len(book.rows) > 0 else "-"
    return f"{things} | {rows}"


def _read_things(reader):
    """Read ascending things, one at least."""
    things = []
    while len(things) < Book.MOST_THINGS and is_name(reader.peek()):
        if len(things) > 0 and reader.peek() <= things[-1]:
            reader.refuse()
        things.append(reader.peek())
        reader.step()
    if len(things) == 0:
        reader.refuse()
    return things
