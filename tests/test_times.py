"""[2]: answers come in a short time for the sizes that it tells."""

import random
import time
import unittest

from scaleborn.asks import asked
from scaleborn.balances import Balance
from scaleborn.between import between
from scaleborn.carried import carried_by
from scaleborn.chains import chain_of, clashing_hands
from scaleborn.charts import charted
from scaleborn.check_asks import shows_asked, shows_mended
from scaleborn.check_between import shows_between, shows_chain, shows_clash
from scaleborn.check_charts import shows_chart
from scaleborn.check_facets import shows_coarsest, shows_facet, shows_whole
from scaleborn.check_said import shows_fewest, shows_finer, shows_said
from scaleborn.check_spans import shows_span
from scaleborn.check_verdicts import shows_judged
from scaleborn.check_wordings import shows_carried, shows_wordings
from scaleborn.coarsest import coarsest, least_sort
from scaleborn.comparisons import Comparison, Pair
from scaleborn.errors import Impossible, NotAbove, TooMany, Unlike
from scaleborn.facets import facets, live_pairs
from scaleborn.finer import finer_than
from scaleborn.fractions import places_in
from scaleborn.hands import clash, settled
from scaleborn.live import Live
from scaleborn.mends import mended
from scaleborn.pins import simplest_between
from scaleborn.ratios import Ratio
from scaleborn.ready_sorts import cells_of, copies_of, heaps_of, order_of
from scaleborn.books import Book
from scaleborn.rounds import is_possible
from scaleborn.said import fewest_said, said_by
from scaleborn.sayings import Saying
from scaleborn.sorts import Sort
from scaleborn.spans import span
from scaleborn.struck import struck
from scaleborn.verdicts import judged, needed_rows, truth_in
from scaleborn.whole import whole_in
from scaleborn.wordings import wordings
from test_charts import random_pairs
from test_rounds import random_book

SHORT = 5


def long_saying(source, pairs):
    """A saying of about 70 parts over these pairs."""
    parts = [("holds", Comparison(pair.balance * source.choice([1, -1]), source.choice([">", ">=", "="]))) for pair in pairs]
    while len(parts) < 70:
        numbers = [source.randrange(max(0, len(parts) - 9), len(parts)) for _ in range(3)]
        parts.append(source.choice([("not", numbers[0]), ("and", *numbers), ("or", *numbers), ("some", 2, *numbers)]))
    return Saying(parts)


class Times(unittest.TestCase):
    def timed(self, function, *told):
        """What the call returns in a short time; None where it is refused."""
        start = time.perf_counter()
        try:
            found = function(*told)
        except (Impossible, NotAbove, TooMany, Unlike):
            found = None
        self.assertLess(time.perf_counter() - start, SHORT, function.__name__)
        return found

    def test_books_and_sayings(self):
        source, seen = random.Random(201), 0
        while seen < 12:
            things, rows = source.choice([("abcd", 6), ("abcdef", 8)])
            most = source.choice([1, 2, 9, 9999])
            book = random_book(source, list(things), rows, most)
            if not is_possible(book):
                continue
            seen += 1
            saying = long_saying(source, random_pairs(source, list(things), 7, most))
            by = Sort(random_pairs(source, list(things), 6, most))
            for shows, function, arguments in (
                    (shows_judged, judged, (book, saying)), (shows_wordings, wordings, (book, saying, by)),
                    (shows_carried, carried_by, (book, saying, by)), (shows_chart, charted, (book, by))):
                paper = self.timed(function, *arguments)
                if paper is not None:
                    self.assertIs(self.timed(shows, *arguments, paper), True)
            for function in (facets, whole_in, coarsest, live_pairs, struck):
                self.timed(function, book, saying)
            if truth_in(book, saying) is not None:
                self.timed(needed_rows, book, saying)
            self.timed(least_sort, book, saying, Sort(saying.pairs))

    def test_sayings_sorts_and_hands(self):
        source, seen = random.Random(202), 0
        while seen < 10:
            things, rows = source.choice([("abcd", 6), ("abcdef", 8)])
            most = source.choice([1, 2, 9, 9999])
            book, other = [random_book(source, list(things), rows, most) for _ in range(2)]
            paper = self.timed(mended, book)
            if paper is not None:
                self.assertIs(self.timed(shows_mended, book, paper), True)
            if not is_possible(book) or not is_possible(other):
                continue
            seen += 1
            pairs = random_pairs(source, list(things), 7, most)
            saying, wanted = [long_saying(source, pairs) for _ in range(2)]
            by, more = Sort(pairs[:6]), Sort(random_pairs(source, list(things), 6, most))
            told = [long_saying(source, random_pairs(source, list(things), 5, most)) for _ in range(source.randint(1, 4))]
            above = [row.balance for row in book.rows if row.kind == ">"] or [Pair.read("a : b").balance]
            for shows, function, arguments in (
                    (shows_asked, asked, (book, saying, by)), (shows_asked, asked, (book, saying, more)),
                    (shows_said, said_by, (book, told, saying)), (shows_fewest, fewest_said, (book, told, saying)),
                    (shows_finer, finer_than, (book, by, more)), (shows_clash, clash, (book, other)),
                    (shows_between, between, (book, saying, other, wanted)), (shows_chain, chain_of, ([book, other, book, other],)),
                    (shows_span, span, (book, pairs[0].balance, above[0])), (shows_whole, whole_in, (book, saying)),
                    (shows_coarsest, coarsest, (book, saying))):
                paper = self.timed(function, *arguments)
                if paper is not None:
                    self.assertIs(self.timed(shows, *arguments, paper), True)
            for facet in self.timed(facets, book, saying) or ():
                self.assertIs(self.timed(shows_facet, book, saying, facet), True)
            self.timed(clashing_hands, [book, other, book, other])
            self.timed(settled, book, other, saying)

    def test_great_numbers(self):
        source, seen = random.Random(203), 0

        def great():
            return Ratio(source.randint(1, 10 ** 30), source.randint(1, 10 ** 30))

        while seen < 8:
            book = random_book(source, list("abcdef"), 8, 9999)
            if not is_possible(book) or not any(row.kind == ">" for row in book.rows):
                continue
            seen += 1
            one, other = Balance({thing: great() for thing in book.things}), Balance({})
            for row in book.rows:
                other = other + row.balance * great()
            paper = self.timed(span, book, one, other)
            self.assertIs(self.timed(shows_span, book, one, other, paper), True)
            self.assertIs(self.timed(simplest_between, great(), None).is_whole, True)
            low = great()
            self.assertTrue(low.is_below(self.timed(simplest_between, low, low + great())))

    def test_live_books(self):
        source = random.Random(204)
        pairs = random_pairs(source, list("abcd"), 7, 2)
        live = Live(Book(list("abcd")))
        for number in range(12):
            self.timed(live.watch, f"n{number}", long_saying(source, pairs))
        for text in ("a > b", "b >= c", "2 a > c + d", "d > 0", "a = c + d", "b > d"):
            self.timed(live.tell, Comparison.read(text))
        for _ in range(6):
            self.timed(live.back)

    def test_charts(self):
        abc, abcd = Book(["a", "b", "c"]), Book(["a", "b", "c", "d"])
        two = Book(["a", "b"]).above_nothing()
        for book, pairs in ((abcd, order_of(abcd.things)), (abc.above_nothing(), heaps_of(abc.things)), (abc, heaps_of(abc.things)),
                            (abcd, cells_of(["a", "b"], ["c", "d"])), (two, copies_of("a", "b", 4)),
                            (Book.read("a b | a > 50 b , b > 0"), [Pair.read(f"a : {count} b") for count in range(2, 22)])):
            chart = self.timed(charted, book, pairs)
            if chart is not None:
                self.assertIs(self.timed(shows_chart, book, pairs, chart), True)
        self.timed(places_in, two, "a", "b", 4)


if __name__ == "__main__":
    unittest.main()
