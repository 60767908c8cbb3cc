"""[12] and scaleborn/coarsest.py."""

import random

from scaleborn.books import Book
from scaleborn.carried import Carried, Divided, carried_by
from scaleborn.charts import Chart
from scaleborn.check_charts import shows_chart
from scaleborn.check_wordings import shows_carried
from scaleborn.coarsest import Coarsest, TwoLeast, coarsest, least_sort
from scaleborn.comparisons import Comparison, Pair
from scaleborn.errors import BadBook, BadSaying, BadSort, Impossible, NotCarried, NoThing, TooMany, Unlike
from scaleborn.facets import facets
from scaleborn.hulls import are_one
from scaleborn.papers import Denial
from scaleborn.ready_sorts import copies_of, heaps_of, order_of
from scaleborn.rounds import fit
from scaleborn.sayings import Saying, both_of, either_of, of_comparison
from scaleborn.sorts import Sort
from scaleborn.whole import whole_in
from support import BOOK, CHART, SAYING, SORT, Case, is_a
from test_charts import IMPOSSIBLE, all_lists, random_pairs, random_saying
from test_facets import QUAD, TIE, TRIO, WIDE, told, told_facets, told_live, truths_of
from test_wordings import together


def carries(book, pairs, saying):
    """Whether the pairs carry the saying, from the outcome lists."""
    every = together(Sort(pairs), saying)
    truths = {}
    for outcomes, truth in truths_of(book, saying, every).items():
        truths.setdefault(outcomes[:len(pairs)], set()).add(truth)
    return all(len(told) == 1 for told in truths.values())


def left_out(book, pairs, saying):
    """The pairs that stay when they are left out from the last on."""
    stay = list(pairs)
    for pair in pairs[::-1]:
        fewer = [other for other in stay if other != pair]
        if carries(book, fewer, saying):
            stay = fewer
    return stay


def has(book, pairs, pair):
    """Whether some of the pairs is the same as this one, or one with it."""
    return any(other == pair or are_one(book, other.balance, pair.balance) for other in pairs)


class Least(Case):
    def test_example(self):
        self.assertEqual(str(least_sort(QUAD, TIE, order_of(["a", "b", "c", "d"]))), "a : b , c : d")

    def test_many(self):
        source, counts = random.Random(191), {}
        for book, saying in told(150, 192, pairs=3):
            some = [*saying.pairs, *random_pairs(source, book.things, 1)]
            some = list({str(pair): pair for pair in some}.values())
            source.shuffle(some)
            by = Sort(some[:source.randint(max(0, len(some) - 1), len(some))])
            if carries(book, list(by), saying):
                found = least_sort(book=book, saying=saying, by=by)
                self.assertIs(type(found), Sort)
                self.assertEqual(list(found), left_out(book, list(by), saying))
                for pair in found:
                    self.assertFalse(carries(book, [other for other in found if other != pair], saying))
                self.assertEqual(least_sort(book, saying, Sort(list(by))), found)
                counts[len(found)] = counts.get(len(found), 0) + 1
            else:
                with self.assertRaises(NotCarried) as caught:
                    least_sort(book, saying, by)
                paper = Divided(caught.exception.one, caught.exception.other)
                self.assertIs(shows_carried(book, saying, by, paper), True)
                counts["not"] = counts.get("not", 0) + 1
        self.assertGreater(min(counts[key] for key in (0, 1, 2, "not")), 5)

    def test_errors(self):
        self.refuses(BadBook, "book", lambda value: least_sort(value, None, None), [is_a(Book)])
        self.refuses(BadSaying, "saying", lambda value: least_sort(IMPOSSIBLE, value, None), [is_a(Saying)])
        self.refuses(BadSort, "by", lambda value: least_sort(IMPOSSIBLE, Saying.read("[ z > 0 ]"), value), [is_a(Sort)])
        self.raises(NoThing, {"name": "z"}, least_sort, IMPOSSIBLE, Saying.read("[ z > 0 ]"), Sort.read("c : d"))
        self.raises(NoThing, {"name": "c"}, least_sort, IMPOSSIBLE, SAYING, Sort.read("d : e , c : d"))
        self.raises(Impossible, {"paper": fit(IMPOSSIBLE)}, least_sort, IMPOSSIBLE, SAYING, SORT)
        many = [of_comparison(Comparison.read(f"a > {count} b")) for count in range(2, 22)]
        self.raises(TooMany, {"what": "pairs", "most": 20}, least_sort, Book(["a", "b"]), both_of(many), Sort.read("a : b"))
        self.raises(TooMany, {"what": "lists", "most": 250}, least_sort, TRIO, SAYING, heaps_of(["a", "b", "c"]))


class Coarse(Case):
    def test_example(self):
        found = coarsest(TRIO, WIDE)
        self.assertEqual([found.word, [str(facet.pair) for facet in found.facets], bool(coarsest(QUAD, TIE))],
                         ["coarsest", ["a + b : 2 c"], False])
        self.raises(Unlike, {"what": "book"}, coarsest, Book.read("a b c d | a >= b , c >= d"), Saying.read("[ a + c > b + d ]"))

    def test_papers(self):
        paper = Coarsest(carried=CHART, facets=[1])
        self.assertEqual((paper.word, paper.parts, bool(paper)), ("coarsest", ((1,), CHART), True))
        self.assertEqual((paper.facets, paper.carried), paper.parts)
        paper = TwoLeast(chart=CHART, second=SORT, first=[SORT], other=3, one=2)
        self.assertEqual((paper.word, paper.parts, bool(paper)), ("twoleast", (2, 3, (SORT,), SORT, CHART), False))
        self.assertEqual((paper.one, paper.other, paper.first, paper.second, paper.chart), paper.parts)
        self.assertIsInstance(paper, Denial)

    def check_coarsest(self, book, saying, paper, found):
        self.assertIs(type(paper), Coarsest)
        self.assertEqual(list(paper.facets), list(facets(book, saying)))
        self.assertIs(type(paper.carried), Carried)
        self.assertEqual(paper.carried, carried_by(book, saying, Sort(found)))
        self.assertIs(shows_carried(book, saying, Sort(found), paper.carried), True)

    def check_two(self, book, saying, paper, found):
        """A TwoLeast is right, and its sorts are those that the interface tells."""
        self.assertIs(type(paper), TwoLeast)
        live = told_live(book, saying)
        first = left_out(book, live, saying)
        spare = [pair for pair in first if pair not in found][-1]
        others = [pair for pair in first if pair != spare]
        sums = []
        for pair in others:
            both = Pair(spare.balance + pair.balance)
            if not has(book, [*others, *sums], both):
                sums.append(both)
        second = left_out(book, [*others, *sums], saying)
        self.assertEqual((list(paper.first), list(paper.second)), (first, second))
        for one, other in ((first, second), (second, first)):
            self.assertTrue(carries(book, one, saying))
            self.assertFalse(all(has(book, other, pair) for pair in one))
            for pair in one:
                self.assertFalse(carries(book, [its for its in one if its != pair], saying))
        chart = paper.chart
        self.assertIs(type(chart), Chart)
        self.assertIs(shows_chart(book, chart.pairs, chart), True)
        self.assertTrue(all(pair in chart.pairs for pair in [*saying.pairs, *first, *second]))
        truths = chart.truths(saying)
        self.assertNotEqual(truths[paper.one], truths[paper.other])
        for at, pair in enumerate(chart.pairs):
            if pair in first and has(book, second, pair):
                self.assertEqual(chart.lists[paper.one][at], chart.lists[paper.other][at])

    def test_many(self):
        counts = {}
        for seed, kinds in ((193, (">", "=")), (194, (">", ">=", "="))):
            for book, saying in told(170, seed, pairs=3, kinds=kinds):
                found = told_facets(book, saying)
                if carries(book, found, saying):
                    paper = coarsest(book=book, saying=saying)
                    self.check_coarsest(book, saying, paper, found)
                    key = "coarsest"
                elif book.is_strict:
                    paper = coarsest(book, saying)
                    self.check_two(book, saying, paper, found)
                    key = "two"
                else:
                    self.assertFalse(whole_in(book, saying))
                    self.raises(Unlike, {"what": "book"}, coarsest, book, saying)
                    key = "unlike"
                    paper = None
                if paper is not None:
                    self.assertEqual(coarsest(Book(book.things, list(book.rows)), Saying(list(saying.parts))), paper)
                if whole_in(book, saying):
                    self.assertEqual(key, "coarsest")
                counts[key] = counts.get(key, 0) + 1
        self.assertGreater(min(counts[key] for key in ("coarsest", "two", "unlike")), 3)

    def test_ties(self):
        source, some = random.Random(195), 0
        for _ in range(25):
            pairs = random_pairs(source, "abcd", 3)
            if len(pairs) < 2:
                continue
            one, other = pairs[:2]
            saying = either_of([of_comparison(Comparison(one.balance, ">")),
                                of_comparison(Comparison(one.balance, "=")) & of_comparison(Comparison(other.balance, ">"))])
            if len(pairs) > 2:
                saying = saying | of_comparison(Comparison(pairs[2].balance, ">"))
            paper = coarsest(QUAD, saying)
            found = told_facets(QUAD, saying)
            if isinstance(paper, TwoLeast):
                self.check_two(QUAD, saying, paper, found)
                some += 1
            else:
                self.check_coarsest(QUAD, saying, paper, found)
        self.assertGreater(some, 8)

    def test_two_things_above_nothing(self):
        source = random.Random(196)
        book = Book(["a", "b"]).above_nothing()
        for _ in range(40):
            pairs = [Pair.read(text) for text in ("a : b", "2 a : b", "a : 2 b", "2 a : 3 b", "a : 4 b", "3 a : b")]
            saying = random_saying(source, source.sample(pairs, 3), 2)
            paper = coarsest(book, saying)
            self.assertIs(type(paper), Coarsest)
            most = [max(abs(pair.balance.number_of(thing).top) for thing in "ab") for pair in [one.pair for one in paper.facets]]
            for copies in (1, 2, 3, 4):
                told_so = max(most, default=0) <= copies
                self.assertIs(bool(carried_by(book, saying, copies_of("a", "b", copies))), told_so)

    def test_errors(self):
        self.refuses(BadBook, "book", lambda value: coarsest(value, None), [is_a(Book)])
        self.refuses(BadSaying, "saying", lambda value: coarsest(IMPOSSIBLE, value), [is_a(Saying)])
        self.raises(NoThing, {"name": "c"}, coarsest, IMPOSSIBLE, Saying.read("( and [ d > a ] [ a + c > b ] )"))
        self.raises(Impossible, {"paper": fit(IMPOSSIBLE)}, coarsest, IMPOSSIBLE, SAYING)
        many = [of_comparison(Comparison.read(f"a > {count} b")) for count in range(2, 23)]
        self.raises(TooMany, {"what": "pairs", "most": 20}, coarsest, BOOK, both_of(many))
        self.assertEqual(all_lists(BOOK, [Pair.read("a : b")]), ((1,),))

    def test_too_many_facets(self):
        book = Book(["a", "b"]).above_nothing()
        ladder = [of_comparison(Comparison.read(f"a > {count} b")) for count in range(2, 22)]

        def alternating(many):
            return either_of([ladder[at] & ~ladder[at + 1] for at in range(0, many - 1, 2)] + ladder[many - 1:many] * (many % 2))

        self.assertEqual(len(facets(book, alternating(16))), 16)
        self.raises(TooMany, {"what": "pairs", "most": 15}, coarsest, book, alternating(16))
        self.assertEqual(len(coarsest(book, alternating(15)).facets), 15)
        # More facets come ahead of what is said of books that are not strict.
        self.raises(TooMany, {"what": "pairs", "most": 15}, coarsest, book.with_rows(Comparison.read("a >= b")), alternating(18))

    def test_too_many_live_pairs(self):
        two = Book(["a", "b", "c", "d"])
        ladder = [of_comparison(Comparison.read(f"a > {count} b")) for count in range(2, 9)]
        tie = either_of([of_comparison(Comparison.read("a = 2 b")) & of_comparison(Comparison.read("c > d"))])
        for many, fits in ((6, True), (7, False)):
            saying = either_of([tie, *[one & ladder[0] for one in ladder[:many]]])
            self.assertEqual(len(told_live(two, saying)), many + 1)
            if fits:
                self.check_two(two, saying, coarsest(two, saying), told_facets(two, saying))
            else:
                self.raises(TooMany, {"what": "pairs", "most": 7}, coarsest, two, saying)
            self.raises(Unlike, {"what": "book"}, coarsest, two.with_rows(Comparison.read("a + b + c >= 0")), saying)


if __name__ == "__main__":
    import unittest
    unittest.main()
