"""[2], [3]: check functions take any value, also within papers: they ask it for nothing before they know what it is."""

from scaleborn.asks import asked
from scaleborn.balances import Balance
from scaleborn.between import between
from scaleborn.books import Book
from scaleborn.carried import carried_by
from scaleborn.chains import chain_of
from scaleborn.charts import charted
from scaleborn.check_asks import shows_asked, shows_mended
from scaleborn.check_between import shows_between, shows_chain, shows_clash
from scaleborn.check_charts import shows_chart
from scaleborn.check_facets import shows_coarsest, shows_facet, shows_whole
from scaleborn.check_rounds import shows_fit, shows_open
from scaleborn.check_said import shows_fewest, shows_finer, shows_said
from scaleborn.check_spans import shows_span
from scaleborn.check_verdicts import shows_judged
from scaleborn.check_wordings import shows_carried, shows_wordings
from scaleborn.coarsest import coarsest
from scaleborn.comparisons import Pair
from scaleborn.facets import facets
from scaleborn.finer import finer_than
from scaleborn.hands import clash
from scaleborn.heaps import heap_matched, shows_matched
from scaleborn.hulls import open_scales
from scaleborn.mends import mended
from scaleborn.papers import Paper
from scaleborn.ratios import Ratio
from scaleborn.ready_sorts import gaps_of, order_of
from scaleborn.rounds import fit
from scaleborn.said import fewest_said, said_by
from scaleborn.sayings import Saying
from scaleborn.sorts import Sort
from scaleborn.spans import span
from scaleborn.verdicts import judged
from scaleborn.whole import whole_in
from scaleborn.wordings import wordings
from support import Case, Stubborn

TWO, ABC, QUAD = Book(["a", "b"]), Book(["a", "b", "c"]), Book(["a", "b", "c", "d"])
MORE, LESS, SAME = [Saying.read(f"[ {text} ]") for text in ("a >= b", "b >= a", "a = b")]
TIE = Saying.read("( or [ a > b ] ( and [ a = b ] [ c > d ] ) )")
ORDER = order_of(["a", "b", "c"])
MEAN = Saying.read("[ a + b > 2 c ]")
ROUND = Book.read("a b c d | a + b > c + d , c > a , d > b")


def replaced(value, other):
    """The paper, or the tuple, with another value at each place within it, also within papers in it."""
    yield other
    if isinstance(value, Paper):
        for at, part in enumerate(value.parts):
            for bend in replaced(part, other):
                yield type(value)(*value.parts[:at], bend, *value.parts[at + 1:])
    elif isinstance(value, tuple):
        for at, part in enumerate(value):
            for bend in replaced(part, other):
                yield (*value[:at], bend, *value[at + 1:])


def exchanged(value):
    """The paper, or the tuple, with True or False in the place of a 1 or 0, or the other way round, or a Ratio for an integer."""
    if isinstance(value, Paper):
        for at, part in enumerate(value.parts):
            for bend in exchanged(part):
                yield type(value)(*value.parts[:at], bend, *value.parts[at + 1:])
    elif isinstance(value, tuple):
        for at, part in enumerate(value):
            for bend in exchanged(part):
                yield (*value[:at], bend, *value[at + 1:])
    elif isinstance(value, bool):
        yield int(value)
    elif isinstance(value, int):
        yield Ratio(value)
        if value in (0, 1):
            yield bool(value)


class Anything(Case):
    def refused(self, shows, arguments, paper, others=(Stubborn(), (), [Stubborn()], {"a": Stubborn()}, float("nan"), "x")):
        """A right paper is shown, and no more so with such a value in it."""
        self.assertIs(shows(*arguments, paper), True)
        for other in others:
            for value in replaced(paper, other):
                # An empty tuple may stand there already, or do as well.
                self.assertIn(shows(*arguments, value), (False, True) if isinstance(other, tuple) else (False,))

        for value in exchanged(paper):
            self.assertIs(shows(*arguments, value), False)

    def test_rounds_and_charts(self):
        for book in (ROUND, ROUND.without(0)):
            self.refused(shows_fit, (book,), fit(book))
        for text in ("a : b", "a + b : c + d", "a : c"):
            self.refused(shows_open, (ROUND.without(0), Pair.read(text)), open_scales(ROUND.without(0), Pair.read(text)))
        pairs = [Pair.read("a : b"), Pair.read("a : 2 b")]
        self.refused(shows_chart, (TWO, pairs), charted(TWO, pairs))
        for first, second in ((["a", "d"], ["b", "c"]), (["a", "b"], ["b", "d"])):
            order = [["a"], ["b", "c"], ["d"]]
            self.refused(shows_matched, (order, first, second), heap_matched(order, first, second))

    def test_sayings(self):
        few = (Stubborn(), {"a": Stubborn()})
        for saying in (MORE, MORE | LESS, ~(MORE | LESS)):
            self.refused(shows_judged, (TWO, saying), judged(TWO, saying))
            self.refused(shows_whole, (TWO, saying), whole_in(TWO, saying))
            self.refused(shows_coarsest, (TWO, saying), coarsest(TWO, saying))
        self.refused(shows_facet, (TWO, MORE), facets(TWO, MORE)[0])
        for by in (Sort.read("a : b"), Sort([])):
            self.refused(shows_carried, (TWO, SAME, by), carried_by(TWO, SAME, by))
            self.refused(shows_wordings, (TWO, SAME, by), wordings(TWO, SAME, by))
            self.refused(shows_asked, (TWO, SAME, by), asked(TWO, SAME, by))
        self.refused(shows_coarsest, (QUAD, TIE), coarsest(QUAD, TIE), few)
        self.refused(shows_asked, (ABC, Saying.read("( and [ a >= b ] [ a >= c ] )"), ORDER),
                     asked(ABC, Saying.read("( and [ a >= b ] [ a >= c ] )"), ORDER), few)
        self.refused(shows_carried, (ABC, MEAN, ORDER), carried_by(ABC, MEAN, ORDER))

    def test_said_and_finer(self):
        for told in ([MORE, LESS], [MORE], [MORE, LESS, SAME]):
            self.refused(shows_said, (TWO, told, SAME), said_by(TWO, told, SAME))
            self.refused(shows_fewest, (TWO, told, SAME), fewest_said(TWO, told, SAME))
        small = Sort.read("a : b , b : c")
        for one, other in ((ORDER, small), (small, ORDER), (small, gaps_of(["a", "b", "c"]))):
            self.refused(shows_finer, (ABC, one, other), finer_than(ABC, one, other), (Stubborn(),))

    def test_hands(self):
        one, two = Book.read("a b x y | a > x , x > b + y"), Book.read("b c x y | y > c , b + c > x")
        for other in (two, two.without(0)):
            self.refused(shows_clash, (one, other), clash(one, other))
        three = [Book.read(text) for text in ("d e | d > e", "a b | a >= b", "b c | b > c", "a c | c >= a")]
        for hands in (three, three[:3]):
            self.refused(shows_chain, (hands,), chain_of(hands))
        low, high = Book.read("a x y | x > a"), Book.read("b x y | b > x")
        for text in ("[ b > y ]", "[ y > b ]", "( and )"):
            arguments = (low, Saying.read("[ a > y ]"), high, Saying.read(text))
            self.refused(shows_between, arguments, between(*arguments))

    def test_spans_and_mends(self):
        grown, double = Book.read("a b c | a > 3 b , 2 b > c , c > 0"), Book.read("a b | a >= 2 b , b > 0")
        for arguments in ((grown, Balance.of("a"), Balance.of("c")), (double, Balance.of("a"), Balance.of("b")),
                          (double, Balance.of("b"), Balance.of("a")), (double, Balance.of("b"), Balance.of("b"))):
            self.refused(shows_span, arguments, span(*arguments))
        for book in (ROUND, TWO, Book.read("a b c | a > b , b > a , b > c , c >= b")):
            self.refused(shows_mended, (book,), mended(book))

    def test_one_value_at_all_places(self):
        for shows, arguments, paper in (
                (shows_span, (TWO, Balance.of("a"), Balance.of("b")), span(Book.read("a b | b > 0"), Balance.of("a"), Balance.of("b"))),
                (shows_clash, (TWO, TWO), clash(TWO, TWO)), (shows_mended, (ROUND,), mended(ROUND)),
                (shows_chart, (TWO, []), charted(TWO, []))):
            for value in (Stubborn(), type(paper)(*[Stubborn() for _ in paper.parts])):
                self.assertIs(shows(*arguments, value), False)


if __name__ == "__main__":
    import unittest
    unittest.main()
