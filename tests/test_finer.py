"""[13] and scaleborn/finer.py."""

import random

from scaleborn.books import Book
from scaleborn.carried import carried_by
from scaleborn.check_charts import shows_chart
from scaleborn.check_said import shows_finer
from scaleborn.comparisons import Comparison, Pair
from scaleborn.errors import BadBook, BadSort, Impossible, NoThing, TooMany
from scaleborn.finer import Coarser, Finer, finer_than, sorts_word
from scaleborn.papers import Denial
from scaleborn.ready_sorts import copies_of, gaps_of, heaps_of, order_of
from scaleborn.rounds import fit, is_possible
from scaleborn.sorts import Sort
from support import BOOK, CHART, PAIR, SCALE, SORT, Case, is_a
from test_charts import IMPOSSIBLE, all_lists, random_pairs, random_saying
from test_rounds import random_book

ABC = Book(["a", "b", "c"])


def decides(book, one, pair):
    """Whether a sort decides a pair, from the outcome lists."""
    pairs = [*[other for other in one if other != pair], pair]
    had = {}
    for outcomes in all_lists(book, pairs):
        had.setdefault(outcomes[:-1], set()).add(outcomes[-1])
    return pair in one or all(len(told) == 1 for told in had.values())


def two_sorts(many, seed, kinds=(">", ">=", "=")):
    """Possible books and two sorts."""
    source = random.Random(seed)
    while many > 0:
        names = list("abc"[:source.randint(2, 3)])
        book = random_book(source, names, source.randint(0, 3), 2)
        book = Book(names, [Comparison(row.balance, source.choice(kinds)) for row in book.rows])
        if not is_possible(book):
            continue
        some = random_pairs(source, names, 5)
        source.shuffle(some)
        one, other = some[:source.randint(0, 3)], some[source.randint(0, 3):]
        yield book, Sort(one), Sort(other[:3])
        many -= 1


class FinerSorts(Case):
    def check(self, book, one, other):
        """Whether one sort is finer; the paper is right."""
        paper = finer_than(book=book, one=one, other=other)
        open_pairs = [pair for pair in other if not decides(book, one, pair)]
        self.assertIs(bool(paper), not open_pairs)
        self.assertIs(shows_finer(book, one, other, paper), True)
        self.assertEqual(finer_than(Book(book.things[::-1], list(book.rows)), Sort(list(one)), Sort(tuple(other))), paper)
        if paper:
            self.assertIs(type(paper), Finer)
            pairs = [*one, *[pair for pair in other if pair not in one]]
            self.assertEqual(list(paper.chart.pairs), pairs)
            self.assertIs(shows_chart(book, pairs, paper.chart), True)
        else:
            self.assertIs(type(paper), Coarser)
            self.assertEqual(paper.pair, open_pairs[0])
            for scale in (paper.one, paper.other):
                self.assertEqual(scale.things, book.things)
                self.assertTrue(book.keeps(scale))
            self.assertEqual(paper.one.outcomes(one), paper.other.outcomes(one))
            self.assertGreater(paper.one.outcome(paper.pair), paper.other.outcome(paper.pair))
        return bool(paper)

    def check_word(self, book, one, other):
        word = {(True, True): "same", (True, False): "finer", (False, True): "coarser", (False, False): "apart"}[
            (self.check(book, one, other), self.check(book, other, one))]
        self.assertEqual(sorts_word(book=book, one=one, other=other), word)
        return word

    def test_example(self):
        order, gaps = order_of(["a", "b", "c"]), gaps_of(["a", "b", "c"])
        self.assertEqual([bool(finer_than(ABC, gaps, order)), str(finer_than(ABC, order, gaps).pair), sorts_word(ABC, order, gaps)],
                         [True, "2 a : b + c", "coarser"])
        self.assertEqual(
            [sorts_word(Book.read("a b c | a = b"), order, Sort.read("b : c")), sorts_word(ABC, order, Sort.read("b : c")),
             sorts_word(ABC, Sort.read("a : c"), Sort.read("b : c"))], ["same", "finer", "apart"])

    def test_papers(self):
        paper = Finer(chart=CHART)
        self.assertEqual((paper.word, bool(paper), paper.parts, paper.chart), ("finer", True, (CHART,), CHART))
        paper = Coarser(other=[SCALE], one=1, pair=PAIR)
        self.assertEqual((paper.word, bool(paper), paper.parts), ("coarser", False, (PAIR, 1, (SCALE,))))
        self.assertEqual((paper.pair, paper.one, paper.other), paper.parts)
        self.assertIsInstance(paper, Denial)

    def test_many(self):
        counts = {}
        for book, one, other in two_sorts(150, 321):
            word = self.check_word(book, one, other)
            counts[word] = counts.get(word, 0) + 1
        self.assertGreater(min(counts[word] for word in ("same", "finer", "coarser", "apart")), 10)

    def test_facts(self):
        source = random.Random(322)
        for book, one, other in two_sorts(80, 323):
            self.assertEqual(sorts_word(book, one, one), "same")
            both = one + other
            self.assertTrue(finer_than(book, both, one))
            if finer_than(book, one, other):
                self.assertEqual(sorts_word(book, both, one), "same")
                if other.pairs:
                    saying = random_saying(source, other.pairs, 2)
                    if carried_by(book, saying, other):
                        self.assertTrue(carried_by(book, saying, one))
                    rows = book.with_rows(source.choice(saying.comparisons)) if saying.comparisons else book
                    if is_possible(rows):
                        self.assertTrue(finer_than(rows, one, other))

    def test_ready_sorts(self):
        for things in (["a", "b"], ["a", "b", "c"]):
            book = Book(things)
            order, nothing = order_of(things), order_of(things, nothing=True)
            self.assertEqual(sorts_word(book, nothing, order), "finer")
            if len(things) == 3:
                self.assertEqual(sorts_word(book, gaps_of(things), order), "finer")
                self.assertEqual(sorts_word(book, order, gaps_of(things)), "coarser")
                # The chart of all heaps has more lists than may be.
                heaps = Sort([pair for pair in heaps_of(things) if "0" in str(pair)] + [Pair.read("a : b")])
                self.assertEqual(sorts_word(book, heaps + nothing, nothing), "finer")
        two = Book(["a", "b"]).above_nothing()
        for more in (2, 3):
            for fewer in range(1, more):
                self.assertEqual(self.check_word(two, copies_of("a", "b", more), copies_of("a", "b", fewer)), "finer")
        self.assertEqual(self.check_word(Book(["a", "b"]), copies_of("a", "b", 1), copies_of("a", "b", 2)), "coarser")

    def test_edges(self):
        empty = Sort([])
        self.assertEqual(self.check_word(ABC, empty, empty), "same")
        self.assertEqual(self.check_word(ABC, empty, SORT), "coarser")
        self.assertEqual(self.check_word(BOOK, empty, SORT), "same")
        tied = Book.read("a b c | a = b")
        self.assertTrue(self.check(tied, Sort.read("b : c"), Sort.read("a : c")))
        self.assertFalse(self.check(ABC, Sort.read("b : c"), Sort.read("a : c")))
        # The greater outcome stands at the first scale, also where lists come the other way round.
        turned = finer_than(Book.read("a b | b >= a"), empty, SORT)
        self.assertEqual([scale.outcomes(SORT) for scale in (turned.one, turned.other)], [(0,), (-1,)])
        down = finer_than(ABC, Sort.read("a : b"), Sort.read("a : b , b : c , a : c"))
        self.assertEqual(str(down.pair), "b : c")

    def test_errors(self):
        for function in (finer_than, sorts_word):
            self.refuses(BadBook, "book", lambda value: function(value, None, None), [is_a(Book)])
            self.refuses(BadSort, "one", lambda value: function(IMPOSSIBLE, value, None), [is_a(Sort)])
            self.refuses(BadSort, "other", lambda value: function(IMPOSSIBLE, Sort.read("z : 0"), value), [is_a(Sort)])
            self.raises(NoThing, {"name": "c"}, function, IMPOSSIBLE, Sort.read("d : e , c : d"), Sort.read("b : z"))
            self.raises(NoThing, {"name": "d"}, function, IMPOSSIBLE, SORT, Sort.read("a : b , e : f , d : e"))
            self.raises(Impossible, {"paper": fit(IMPOSSIBLE)}, function, IMPOSSIBLE, SORT, SORT)
            ladder = [Pair.read(f"a : {count} b") for count in range(2, 23)]
            self.raises(TooMany, {"what": "pairs", "most": 20}, function, BOOK, Sort(ladder[:12]), Sort(ladder[9:]))
            top = Book.read("a b | a > 50 b , b > 0")
            self.assertTrue(function(top, Sort(ladder[:12]), Sort(ladder[8:20])))
            self.raises(TooMany, {"what": "lists", "most": 250}, function, ABC, heaps_of(["a", "b", "c"]), SORT)


if __name__ == "__main__":
    import unittest
    unittest.main()
