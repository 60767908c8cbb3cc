"""The lines of a desk: what each one does with the values that are kept."""

from scaleborn.asks import asked
from scaleborn.books import Book
from scaleborn.carried import carried_by
from scaleborn.charts import charted
from scaleborn.checks import is_name
from scaleborn.comparisons import Comparison, Pair
from scaleborn.errors import BadText
from scaleborn.facets import facets
from scaleborn.reading import whole_in
from scaleborn.ready_sorts import gaps_of, heaps_of, order_of
from scaleborn.rounds import fit
from scaleborn.sayings import Saying
from scaleborn.scales import Scale
from scaleborn.sorts import Sort
from scaleborn.verdicts import judged

DEEDS = ("set", "add", "drop", "order", "gaps", "heaps", "facets")
KINDS = ("book", "saying", "sort", "scale", "pair")

# For each of the other lines the kinds of the values that its names stand for; "" is any kind.
ASKED = {
    "show": ("",), "fit": ("book",), "judge": ("book", "saying"), "holds": ("scale", "saying"),
    "outcome": ("scale", "pair"), "carries": ("book", "saying", "sort"), "lists": ("book", "sort"),
    "ask": ("book", "saying", "sort")}
OUTCOME_WORDS = {1: "more", 0: "alike", -1: "less"}


def deed_of(reader, kept):
    """What a deed keeps: the name, the kind and the value; and its answer."""
    word = reader.peek()
    reader.step()
    if word == "add" or word == "drop":
        return _changed_book(reader, kept, word)
    name = _name_in(reader)
    if word == "set":
        kind = reader.peek()
        if kind not in KINDS:
            reader.refuse()
        reader.step()
        return name, kind, _read_rest(reader, kind), "set"
    sort = _facets_in(reader, kept) if word == "facets" else _ready_sort(word, _names_in(reader))
    return name, "sort", sort, str(len(sort))


def answer_of(reader, kept):
    """The answer to a line that is no deed."""
    word = reader.peek()
    if word not in ASKED:
        reader.refuse()
    reader.step()
    told = [_kept_in(reader, kept, kind) for kind in ASKED[word]]
    reader.finish()
    if word == "show":
        return str(told[0])
    if word == "fit":
        paper = fit(told[0])
        return str(paper.scale) if paper else "none"
    if word == "judge":
        return judged(told[0], told[1]).word
    if word == "holds":
        return _yes_or_no(told[1].holds(told[0]))
    if word == "outcome":
        return OUTCOME_WORDS[told[0].outcome(told[1])]
    if word == "carries":
        return _yes_or_no(carried_by(told[0], told[1], told[2]))
    if word == "lists":
        return str(len(charted(told[0], told[1])))
    paper = asked(told[0], told[1], told[2])
    return str(paper.number) if paper else "none"


def _changed_book(reader, kept, word):
    """The name of a book, its kind, the book with one row more or less, and how many rows it has."""
    name = reader.peek()
    book = _kept_in(reader, kept, "book")
    if word == "add":
        changed = book.with_rows(_read_rest(reader, "comparison"))
    else:
        number = whole_in(reader.peek())
        if number is None:
            reader.refuse()
        reader.step()
        reader.finish()
        changed = book.without(number)
    return name, "book", changed, str(len(changed))


def _facets_in(reader, kept):
    """The sort of the facets of a saying in a book."""
    book, saying = [_kept_in(reader, kept, kind) for kind in ("book", "saying")]
    reader.finish()
    return Sort([facet.pair for facet in facets(book, saying)])


def _ready_sort(word, things):
    """The sort of these things that the word names."""
    if word == "order":
        return order_of(things)
    return gaps_of(things) if word == "gaps" else heaps_of(things)


def _name_in(reader):
    """Read a name."""
    name = reader.peek()
    if not is_name(name):
        reader.refuse()
    reader.step()
    return name


def _names_in(reader):
    """Read one name or more, up to the end."""
    names = [_name_in(reader)]
    while reader.at < reader.end:
        names.append(_name_in(reader))
    return names


def _kept_in(reader, kept, kind):
    """Read a name that keeps a value of this kind; the value."""
    name = reader.peek()
    if name not in kept or kind != "" and kept[name][0] != kind:
        reader.refuse()
    reader.step()
    return kept[name][1]


def _read_rest(reader, kind):
    """The value of this kind whose text is the rest of the line."""
    at = reader.at
    try:
        return _value_in(kind, " ".join(reader.words[at:]))
    except BadText as error:
        raise BadText(0, at + error.word)


def _value_in(kind, text):
    """The value of this kind with this text."""
    if kind == "book":
        return Book.read(text)
    if kind == "saying":
        return Saying.read(text)
    if kind == "sort":
        return Sort.read(text)
    if kind == "scale":
        return Scale.read(text)
    return Pair.read(text) if kind == "pair" else Comparison.read(text)


def _yes_or_no(value):
    """The word for whether it is so."""
    return "yes" if value else "no"
