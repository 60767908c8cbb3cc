"""[2]: answers come in a short time for the sizes that it tells."""

import random
import time
import unittest

from scaleborn.carried import carried_by
from scaleborn.charts import charted
from scaleborn.check_charts import shows_chart
from scaleborn.check_verdicts import shows_judged
from scaleborn.check_wordings import shows_carried, shows_wordings
from scaleborn.coarsest import coarsest, least_sort
from scaleborn.comparisons import Comparison, Pair
from scaleborn.errors import TooMany, Unlike
from scaleborn.facets import facets, live_pairs
from scaleborn.fractions import places_in
from scaleborn.ready_sorts import cells_of, copies_of, heaps_of, order_of
from scaleborn.books import Book
from scaleborn.rounds import is_possible
from scaleborn.sayings import Saying
from scaleborn.sorts import Sort
from scaleborn.struck import struck
from scaleborn.verdicts import judged, needed_rows, truth_in
from scaleborn.whole import whole_in
from scaleborn.wordings import wordings
from test_charts import random_pairs
from test_rounds import random_book

SHORT = 5


def long_saying(source, pairs):
    """A saying of about 70 parts over these pairs."""
    parts = [("holds", Comparison(pair.balance * source.choice([1, -1]), source.choice([">", ">=", "="]))) for pair in pairs]
    while len(parts) < 70:
        numbers = [source.randrange(max(0, len(parts) - 9), len(parts)) for _ in range(3)]
        parts.append(source.choice([("not", numbers[0]), ("and", *numbers), ("or", *numbers), ("some", 2, *numbers)]))
    return Saying(parts)


class Times(unittest.TestCase):
    def timed(self, function, *told):
        """What the call returns in a short time; None where it is refused."""
        start = time.perf_counter()
        try:
            found = function(*told)
        except (TooMany, Unlike):
            found = None
        self.assertLess(time.perf_counter() - start, SHORT, function.__name__)
        return found

    def test_books_and_sayings(self):
        source, seen = random.Random(201), 0
        while seen < 12:
            things, rows = source.choice([("abcd", 6), ("abcdef", 8)])
            most = source.choice([1, 2, 9, 9999])
            book = random_book(source, list(things), rows, most)
            if not is_possible(book):
                continue
            seen += 1
            saying = long_saying(source, random_pairs(source, list(things), 7, most))
            by = Sort(random_pairs(source, list(things), 6, most))
            for shows, function, arguments in (
                    (shows_judged, judged, (book, saying)), (shows_wordings, wordings, (book, saying, by)),
                    (shows_carried, carried_by, (book, saying, by)), (shows_chart, charted, (book, by))):
                paper = self.timed(function, *arguments)
                if paper is not None:
                    self.assertIs(self.timed(shows, *arguments, paper), True)
            for function in (facets, whole_in, coarsest, live_pairs, struck):
                self.timed(function, book, saying)
            if truth_in(book, saying) is not None:
                self.timed(needed_rows, book, saying)
            self.timed(least_sort, book, saying, Sort(saying.pairs))

    def test_charts(self):
        abc, abcd = Book(["a", "b", "c"]), Book(["a", "b", "c", "d"])
        two = Book(["a", "b"]).above_nothing()
        for book, pairs in ((abcd, order_of(abcd.things)), (abc.above_nothing(), heaps_of(abc.things)), (abc, heaps_of(abc.things)),
                            (abcd, cells_of(["a", "b"], ["c", "d"])), (two, copies_of("a", "b", 4)),
                            (Book.read("a b | a > 50 b , b > 0"), [Pair.read(f"a : {count} b") for count in range(2, 22)])):
            chart = self.timed(charted, book, pairs)
            if chart is not None:
                self.assertIs(self.timed(shows_chart, book, pairs, chart), True)
        self.timed(places_in, two, "a", "b", 4)


if __name__ == "__main__":
    unittest.main()
