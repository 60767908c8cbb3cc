"""[12], scaleborn/facets.py and scaleborn/whole.py."""

import itertools
import random
import time

from scaleborn.books import Book
from scaleborn.charts import charted
from scaleborn.check_charts import shows_chart
from scaleborn.comparisons import Comparison, Pair
from scaleborn.errors import BadBook, BadSaying, Impossible, NoThing, TooMany
from scaleborn.facets import Facet, facets, live_pairs
from scaleborn.hulls import are_one, is_held_alike, is_open
from scaleborn.papers import Denial, Paper
from scaleborn.rounds import fit, is_possible
from scaleborn.sayings import Saying, both_of, either_of, of_comparison
from scaleborn.struck import struck
from scaleborn.whole import Ragged, Whole, whole_in
from support import BOOK, CHART, PAIR, SAYING, Case, is_a
from test_charts import IMPOSSIBLE, all_lists, random_pairs, random_saying
from test_rounds import random_book

TRIO, EVEN, QUAD = Book(["a", "b", "c"]), Book.read("a b c | a = b"), Book(["a", "b", "c", "d"])
WIDE = Saying.read("( or ( and [ a > c ] [ b > c ] ) [ a + b > 2 c ] )")
TIE = Saying.read("( or [ a > b ] ( and [ a = b ] [ c > d ] ) )")
UNLIKE = Saying.read("( not [ a = b ] )")


def told(many, seed, things="abc", rows=2, pairs=4, kinds=(">", ">=", "=")):
    """Possible books of few rows, and sayings about pairs some of which are often one or held alike there."""
    source = random.Random(seed)
    while many > 0:
        names = list(things[:source.randint(2, len(things))])
        book = random_book(source, names, source.randint(0, rows), 2)
        book = Book(names, [Comparison(row.balance, source.choice(kinds)) for row in book.rows])
        some = random_pairs(source, names, source.randint(1, pairs))
        if not is_possible(book) or not some:
            continue
        if book.rows and source.random() < 0.4:
            moved = some[0].balance + source.choice(book.rows).balance
            if not moved.is_nothing:
                some = list({str(pair): pair for pair in [*some, Pair(moved)]}.values())
        yield book, source.choice([random_saying, rich_saying])(source, some)
        many -= 1


def rich_saying(source, pairs):
    """A saying that is made of comparisons of all the pairs."""
    waiting = []
    for pair in pairs:
        for _ in range(source.randint(1, 2)):
            balance = pair.balance * source.choice([1, -1])
            waiting.append(of_comparison(Comparison(balance, source.choice([">", ">=", "="]))))
    while len(waiting) > 1:
        source.shuffle(waiting)
        one, other = waiting.pop(), waiting.pop()
        waiting.append(source.choice([one & other, one | other, one & ~other, either_of([~one, other])]))
    return waiting[0]


def told_live(book, saying):
    """The live pairs, as [12] tells them."""
    found = []
    for pair in saying.pairs:
        if not is_held_alike(book, pair.balance) and not any(are_one(book, pair.balance, other.balance) for other in found):
            found.append(pair)
    return found


def truths_of(book, saying, pairs):
    """The truth of a saying at each outcome list of these pairs, among which its live ones are."""
    every = list({str(pair): pair for pair in [*pairs, *saying.pairs]}.values())
    texts = [str(pair) for pair in every]
    found = {}
    for outcomes in all_lists(book, every):
        found.setdefault(outcomes[:len(pairs)], set()).add(saying.truth_by(dict(zip(texts, outcomes))))
    assert all(len(truths) == 1 for truths in found.values())
    return {outcomes: truths.pop() for outcomes, truths in found.items()}


def told_facets(book, saying):
    """The facets, as [12] tells them."""
    live = told_live(book, saying)
    truths = truths_of(book, saying, live)
    found = []
    for at, pair in enumerate(live):
        for rest in itertools.product((1, -1), repeat=len(live) - 1):
            three = [(*rest[:at], outcome, *rest[at:]) for outcome in (1, 0, -1)]
            if all(one in truths for one in three) and len({truths[one] for one in three}) == 2:
                found.append(pair)
                break
    return found


def beside(truths, at):
    return [one for one in truths if 0 not in one and all(mine in (0, its) for mine, its in zip(at, one))]


def is_whole(book, saying):
    truths = truths_of(book, saying, told_live(book, saying))
    return all(truths[at] == all(truths[one] for one in beside(truths, at)) for at in truths)


class Facets(Case):
    def check(self, book, saying):
        """The facets of a saying, each with three right numbers."""
        live = live_pairs(book, saying)
        self.assertEqual(live, tuple(told_live(book, saying)))
        found = facets(book=book, saying=saying)
        self.assertIs(type(found), tuple)
        for facet in found:
            self.assertIs(type(facet), Facet)
            self.assertEqual((facet.word, bool(facet)), ("facet", True))
            self.assertIs(shows_chart(book, saying.pairs, facet.chart), True)
            numbers = (facet.more, facet.alike, facet.less)
            self.assertTrue(all(type(number) is int and 0 <= number < len(facet.chart) for number in numbers))
            self.assertEqual([facet.chart.lists[number][saying.pairs.index(facet.pair)] for number in numbers], [1, 0, -1])
            for pair in live:
                if pair != facet.pair:
                    had = {facet.chart.lists[number][saying.pairs.index(pair)] for number in numbers}
                    self.assertTrue(had in ({1}, {-1}))
            truths = facet.chart.truths(saying)
            self.assertEqual(len({truths[number] for number in numbers}), 2)
        pairs = [facet.pair for facet in found]
        self.assertEqual(pairs, told_facets(book, saying))
        self.assertEqual(facets(Book(book.things, list(book.rows)), Saying(list(saying.parts))), found)
        return pairs

    def test_example(self):
        self.assertEqual(([str(pair) for pair in live_pairs(TRIO, WIDE)], [str(facet.pair) for facet in facets(TRIO, WIDE)]),
                         (["a : c", "b : c", "a + b : 2 c"], ["a + b : 2 c"]))
        self.assertEqual(([str(pair) for pair in live_pairs(EVEN, WIDE)], [str(facet.pair) for facet in facets(EVEN, WIDE)]),
                         (["a : c"], ["a : c"]))

    def test_papers(self):
        paper = Facet(chart=CHART, less=[1], alike=2, more=3, pair=PAIR)
        self.assertEqual(paper.parts, (PAIR, 3, 2, (1,), CHART))
        self.assertEqual((paper.pair, paper.more, paper.alike, paper.less, paper.chart), paper.parts)
        self.assertNotIsInstance(paper, Denial)
        self.assertNotEqual(paper, Paper("facet", *paper.parts))

    def test_many_sayings(self):
        counts, live = {}, 0
        for book, saying in told(350, 171):
            found = self.check(book, saying)
            counts[len(found)] = counts.get(len(found), 0) + 1
            live += len(live_pairs(book, saying)) < len(saying.pairs)
        self.assertGreater(min(counts[many] for many in (0, 1, 2)), 15)
        self.assertGreater(live, 40)

    def test_rows_of_each_kind(self):
        for at, kind in enumerate((">", ">=", "=")):
            some = 0
            for book, saying in told(60, 172 + at, rows=3, kinds=(kind,)):
                some += len(self.check(book, saying)) > 0
            self.assertGreater(some, 10)
        ridge = Book.read("a b c d | a >= b , c >= d")
        self.assertEqual(self.check(ridge, Saying.read("[ a + c > b + d ]")), [])
        self.assertEqual(self.check(QUAD, TIE), [PAIR])
        same = Book.read("a b c d | a = b")
        self.assertEqual([str(pair) for pair in self.check(same, TIE)], ["c : d"])

    def test_facts(self):
        source = random.Random(175)
        for book, saying in told(120, 176, pairs=3):
            mine = [facet.pair for facet in facets(book, saying)]
            self.assertEqual([facet.pair for facet in facets(book, ~saying)], mine)
            other = random_saying(source, saying.pairs)
            its = [facet.pair for facet in facets(book, other)]
            for both in (saying & other, saying | other):
                for facet in facets(book, both):
                    self.assertTrue(any(are_one(book, facet.pair.balance, pair.balance) for pair in [*mine, *its]))
            left = struck(book, saying)
            kept = [facet.pair for facet in facets(book, left)]
            self.assertEqual(len(kept), len(mine))
            for pair in mine:
                self.assertTrue(any(are_one(book, pair.balance, facet.balance) for facet in kept))
            self.assertEqual(bool(whole_in(book, left)), bool(whole_in(book, saying)))
            if whole_in(book, saying) and whole_in(book, other):
                self.assertTrue(whole_in(book, saying & other))

    def test_one_comparison(self):
        for book, saying in told(80, 177, pairs=1):
            for comparison in saying.comparisons:
                if is_open(book, comparison.pair):
                    one = of_comparison(comparison)
                    self.assertEqual(self.check(book, one), [comparison.pair])
                    self.assertIs(bool(whole_in(book, one)), comparison.kind == ">")
                    self.assertIs(bool(whole_in(book, ~one)), comparison.kind == ">=")

    def test_live_pairs_of_twenty_one(self):
        many = [of_comparison(Comparison.read(f"a > {count} b")) for count in range(2, 23)]
        book = Book.read("a b c d e f | a > b , b > c , c >= d , d >= e , e >= c , f > a , a > 2 b , a + f > c")
        start = time.perf_counter()
        live = live_pairs(book=book, saying=both_of(many))
        self.assertLess(time.perf_counter() - start, 5)
        self.assertEqual(len(live), 21)
        self.assertEqual(live_pairs(Book.read("a b | b = 0"), both_of(many)), (Pair.read("a : 2 b"),))
        self.assertEqual(live_pairs(Book.read("a b | a = 2 b , b >= 0 , 0 >= b"), both_of(many)), ())

    def test_errors(self):
        many = both_of([of_comparison(Comparison.read(f"a > {count} b")) for count in range(2, 23)])
        for function in (live_pairs, facets, whole_in):
            self.refuses(BadBook, "book", lambda value: function(value, None), [is_a(Book)])
            self.refuses(BadSaying, "saying", lambda value: function(IMPOSSIBLE, value), [is_a(Saying)])
            self.raises(NoThing, {"name": "c"}, function, IMPOSSIBLE, Saying.read("( and [ d > a ] [ a + c > b ] )"))
            self.raises(Impossible, {"paper": fit(IMPOSSIBLE)}, function, IMPOSSIBLE, many)
            if function is not live_pairs:
                self.raises(TooMany, {"what": "pairs", "most": 20}, function, BOOK, many)
                texts = ("a + 3 b + 2 u : 0,2 a : b,a + 2 u : 3 b,2 a : u,2 a + u : 3 b,3 b : u,a : 2 b,a + b + 2 u : 0,"
                         "3 a : 2 u,2 a + u : b,a + 2 b : 0,a + u : b")
                wide = both_of([of_comparison(Comparison(Pair.read(text).balance, ">")) for text in texts.split(",")])
                self.raises(TooMany, {"what": "lists", "most": 250}, function, Book.read("a b u | u > 0"), wide)


class Wholes(Case):
    def test_example(self):
        self.assertEqual([whole_in(TRIO, WIDE).word, whole_in(QUAD, TIE).word, whole_in(TRIO, UNLIKE).beside],
                         ["whole", "ragged", None])

    def test_papers(self):
        paper = Ragged(chart=CHART, beside=[1], at=2)
        self.assertEqual((paper.word, paper.parts, bool(paper)), ("ragged", (2, (1,), CHART), False))
        self.assertEqual((paper.at, paper.beside, paper.chart), paper.parts)
        self.assertIsInstance(paper, Denial)
        paper = Whole(chart=CHART)
        self.assertEqual((paper.word, paper.parts, bool(paper), paper.chart), ("whole", (CHART,), True, CHART))

    def test_many_sayings(self):
        counts = {}
        for book, saying in told(300, 181):
            live = told_live(book, saying)
            paper = whole_in(book=book, saying=saying)
            self.assertIs(bool(paper), is_whole(book, saying))
            self.assertIs(type(paper), Whole if paper else Ragged)
            self.assertIs(shows_chart(book, saying.pairs, paper.chart), True)
            self.assertEqual(whole_in(Book(book.things, list(book.rows)), Saying(list(saying.parts))), paper)
            key = "whole"
            if not paper:
                truths = paper.chart.truths(saying)
                places = [saying.pairs.index(pair) for pair in live]
                cuts = [tuple(outcomes[place] for place in places) for outcomes in paper.chart.lists]
                near = [number for number, cut in enumerate(cuts) if cut in beside(cuts, cuts[paper.at])]
                if paper.beside is None:
                    self.assertFalse(truths[paper.at])
                    self.assertTrue(all(truths[number] for number in near))
                else:
                    self.assertTrue(truths[paper.at])
                    self.assertIn(paper.beside, near)
                    self.assertFalse(truths[paper.beside])
                key = "none" if paper.beside is None else "beside"
            counts[key] = counts.get(key, 0) + 1
        self.assertGreater(min(counts[key] for key in ("whole", "none", "beside")), 20)

    def test_nothing_beside(self):
        # Where a is held at most b and at least b, no list lies beside the one with 0.
        rim = Book.read("a b c | a >= b")
        for text, word in (("[ a > b ]", "whole"), ("[ a = b ]", "ragged"), ("[ a >= b ]", "whole"), ("( not [ a = b ] )", "whole")):
            self.assertIs(bool(whole_in(rim, Saying.read(text))), is_whole(rim, Saying.read(text)), text)
        self.assertEqual(whole_in(BOOK, SAYING).word, "whole")
        for text in ("a b | a = b", "a b | a > b"):
            for saying in (SAYING, ~SAYING):
                self.assertTrue(whole_in(Book.read(text), saying))
        for book, saying in told(60, 182):
            charts = charted(book, saying.pairs)
            if len(set(charts.truths(saying))) == 1:
                self.assertEqual((facets(book, saying), whole_in(book, saying).word), ((), "whole"))


if __name__ == "__main__":
    import unittest
    unittest.main()
