"""[9], scaleborn/verdicts.py and scaleborn/check_verdicts.py."""

import random

from scaleborn.balances import Balance
from scaleborn.books import Book
from scaleborn.charts import Chart, charted
from scaleborn.check_charts import shows_chart
from scaleborn.check_verdicts import shows_follows, shows_judged
from scaleborn.comparisons import Comparison, Pair
from scaleborn.errors import BadBook, BadPaper, BadSaying, Hanging, Impossible, NoPair, NoThing, TooMany
from scaleborn.papers import Denial, Paper
from scaleborn.ratios import Ratio
from scaleborn.ready_sorts import gaps_of, heaps_of
from scaleborn.rounds import Fits, fit
from scaleborn.sayings import Saying, both_of, either_of, no, of_comparison, yes
from scaleborn.scales import Scale
from scaleborn.verdicts import Always, Hangs, Never, are_same, follows, judged, judged_by, needed_rows, truth_in
from support import BOOK, CHART, ODD, SAYING, SCALE, Case, is_a
from test_charts import IMPOSSIBLE, all_lists, cases, random_saying

JURY = Book.read("a b c d | a + b > 2 c , c > d , a > 0")
MEAN, FIRST = Saying.read("[ a + b > 2 d ]"), Saying.read("[ a > d ]")


def sayings(many, seed, rows=5, pairs=4):
    """Possible books, pairs, and sayings about these, among them ones that are always or never."""
    source = random.Random(seed)
    for book, some in cases(many, seed, rows, pairs):
        if not some:
            yield book, some, source.choice([yes(), no(), yes() & ~no()])
            continue
        saying = random_saying(source, some)
        if book.rows and source.random() < 0.4:
            row = of_comparison(source.choice(book.rows))
            saying = source.choice([row | saying, ~row & saying, row, ~row, both_of([of_comparison(one) for one in book.rows])])
        yield book, some, saying


def truths_of(book, saying):
    """The truths of a saying at all outcome lists of its pairs."""
    texts = [str(pair) for pair in saying.pairs]
    return [saying.truth_by(dict(zip(texts, told))) for told in all_lists(book, saying.pairs)]


def word_of(truths):
    if all(truths):
        return True
    return None if any(truths) else False


class Verdicts(Case):
    def test_example(self):
        self.assertEqual(
            [truth_in(JURY, MEAN), truth_in(JURY, FIRST), truth_in(JURY, ~MEAN), judged(JURY, FIRST).word,
             bool(judged(JURY, ~MEAN))], [True, None, False, "hangs", True])
        free = Book(["a", "b", "c"])
        self.assertEqual(
            [needed_rows(JURY, MEAN),
             follows(free, Saying.read("( and [ a >= c ] [ b > c ] )"), Saying.read("[ a + b > 2 c ]")).word,
             are_same(JURY, FIRST, MEAN | FIRST)], [(0, 1), "always", False])
        gaps = charted(free, gaps_of(["a", "b", "c"]))
        self.assertEqual([judged_by(gaps, Saying.read("( or [ a >= b ] [ b >= a ] )")).word,
                          judged_by(gaps, Saying.read("[ a > b ]")).word], ["always", "hangs"])
        self.raises(NoThing, {"name": "e"}, needed_rows, JURY, Saying.read("[ a > e ]"))
        high, low = Scale.read("a 3 b 0 c 1 d 0"), Scale.read("a 1 b 10 c 2 d 3/2")
        self.assertEqual([shows_judged(JURY, FIRST, Hangs(high, low)), shows_judged(JURY, FIRST, Hangs(low, high)),
                          shows_judged(JURY, ~MEAN, judged(JURY, ~MEAN))], [True, False, True])

    def test_papers(self):
        for made, word in ((Always, "always"), (Never, "never")):
            paper = made(chart=CHART)
            self.assertEqual((paper.word, paper.parts, paper.chart, bool(paper)), (word, (CHART,), CHART, True))
            self.assertNotIsInstance(paper, Denial)
            self.assertEqual(made([1]).chart, (1,))
        hangs = Hangs(broken=SCALE, kept=[SCALE])
        self.assertEqual((hangs.word, hangs.parts, bool(hangs)), ("hangs", ((SCALE,), SCALE), False))
        self.assertEqual((hangs.kept, hangs.broken), ((SCALE,), SCALE))
        self.assertIsInstance(hangs, Denial)
        self.assertNotEqual(Always(CHART), Never(CHART))

    def test_judged(self):
        words = {True: 0, False: 0, None: 0}
        for book, _, saying in sayings(500, 91):
            told = word_of(truths_of(book, saying))
            words[told] += 1
            self.assertIs(truth_in(book=book, saying=saying), told)
            paper = judged(book=book, saying=saying)
            self.assertIs(type(paper), {True: Always, False: Never, None: Hangs}[told])
            self.assertIs(shows_judged(book, saying, paper), True)
            self.assertEqual(judged(Book(book.things, list(book.rows)), Saying(list(saying.parts))), paper)
            self.assertIs(truth_in(book, ~saying), None if told is None else not told)
            if told is None:
                self.assertTrue(book.keeps(paper.kept) and book.keeps(paper.broken))
                self.assertEqual((paper.kept.things, paper.broken.things), (book.things, book.things))
                self.assertEqual((saying.holds(paper.kept), saying.holds(paper.broken)), (True, False))
            else:
                self.assertEqual(paper.chart.pairs, saying.pairs)
                self.assertIs(shows_chart(book, saying.pairs, paper.chart), True)
        self.assertGreater(min(words.values()), 40)

    def test_yes_and_no(self):
        for book in (BOOK, Book(["a"]), Book.read("a b | a = b")):
            self.assertEqual((truth_in(book, yes()), truth_in(book, no())), (True, False))
            self.assertEqual(judged(book, yes()).chart.lists, ((),))
            self.assertEqual(judged(book, ~yes()).word, "never")
            self.assertEqual((needed_rows(book, yes()), needed_rows(book, no())), ((), ()))

    def test_rows_are_always(self):
        for book, _ in cases(60, 92):
            for row in book.rows:
                self.assertIs(truth_in(book, of_comparison(row)), True)
                for contrary in row.contraries():
                    self.assertIs(truth_in(book, of_comparison(contrary)), False)

    def test_judged_by(self):
        source = random.Random(93)
        for book, pairs, saying in sayings(200, 94):
            told = list({str(pair): pair for pair in [*pairs, *saying.pairs]}.values())
            source.shuffle(told)
            chart = charted(book, told)
            paper = judged_by(chart=chart, saying=saying)
            self.assertEqual(paper.word, judged(book, saying).word)
            if isinstance(paper, Hangs):
                self.assertTrue(paper.kept in chart.scales and paper.broken in chart.scales)
            else:
                self.assertIs(paper.chart, chart)
            self.assertIs(shows_judged(book, saying, paper), True)

    def test_follows_and_same(self):
        source, counts = random.Random(95), {}
        for book, pairs, one in sayings(250, 96, pairs=3):
            if not pairs:
                continue
            other = source.choice([random_saying(source, pairs), one | random_saying(source, pairs), one & one])
            both = list({str(pair): pair for pair in [*one.pairs, *other.pairs]}.values())
            texts = [str(pair) for pair in both]
            truths = [[saying.truth_by(dict(zip(texts, told))) for saying in (one, other)] for told in all_lists(book, both)]
            paper = follows(book=book, one=one, other=other)
            self.assertEqual(paper, judged(book, ~one | other))
            self.assertEqual(paper.word == "always", all(its or not mine for mine, its in truths))
            self.assertEqual(paper.word == "never", not any(its or not mine for mine, its in truths))
            same = are_same(book=book, one=one, other=other)
            self.assertIs(same, all(its == mine for mine, its in truths))
            self.assertIs(shows_follows(book=book, one=one, other=other, value=paper), True)
            counts[paper.word, same] = counts.get((paper.word, same), 0) + 1
        self.assertGreater(min(counts.get(key, 0) for key in [("always", True), ("always", False), ("hangs", False)]), 20)

    def test_needed_rows(self):
        source, lengths = random.Random(97), {}
        for book, _, saying in sayings(400, 98):
            word = word_of(truths_of(book, saying))
            if word is None:
                with self.assertRaises(Hanging) as caught:
                    needed_rows(book, saying)
                self.assertIs(shows_judged(book, saying, Hangs(caught.exception.kept, caught.exception.broken)), True)
                continue
            if book.rows and source.random() < 0.5:
                book = book.with_rows(source.choice(book.rows))
            stay = list(range(len(book)))
            for number in reversed(range(len(book))):
                fewer = [other for other in stay if other != number]
                if word_of(truths_of(Book(book.things, [book.rows[other] for other in fewer]), saying)) is word:
                    stay = fewer
            self.assertEqual(needed_rows(book=book, saying=saying), tuple(stay))
            lengths[len(stay)] = lengths.get(len(stay), 0) + 1
        self.assertGreater(min(lengths.get(many, 0) for many in (0, 1, 2)), 10)
        equal = Book(["a", "b"], [Comparison.read("a > b")] * 16)
        self.assertEqual(needed_rows(equal, SAYING), (0,))
        self.assertEqual(needed_rows(Book.read("a b | a > 0 , a > b , 2 a > 3 b , a > b"), SAYING), (1,))

    def test_too_many(self):
        book = Book.read("a b | a > 50 b , b > 0")
        many = [of_comparison(Comparison.read(f"a > {count} b")) for count in range(2, 23)]
        error = {"what": "pairs", "most": 20}
        for told in (book, Book(["a", "b"])):
            for function in (judged, truth_in, needed_rows):
                self.raises(TooMany, error, function, told, both_of(many))
        self.assertIs(truth_in(book, both_of(many[1:])), True)
        self.raises(TooMany, error, follows, book, both_of(many[:11]), both_of(many[10:]))
        self.raises(TooMany, error, are_same, book, both_of(many[:11]), both_of(many[10:]))
        self.assertEqual(follows(book, both_of(many[:11]), both_of(many[10:20])).word, "always")
        abc = Book(["a", "b", "c"])
        # A saying that is always wherever a is above b, of all pairs of heaps.
        heaps = [of_comparison(Comparison(pair.balance, ">")) for pair in heaps_of(["a", "b", "c"])]
        wider = either_of([Saying.read("[ a > b ]"), both_of(heaps)])
        for function in (judged, truth_in, needed_rows):
            self.raises(TooMany, {"what": "lists", "most": 250}, function, abc, wider)
        # Without all rows, as it is asked last, there are too many outcome lists.
        bound = Book.read("a b c | a > b , b > c , c > 0")
        self.assertIs(truth_in(bound, wider), True)
        self.raises(TooMany, {"what": "lists", "most": 250}, needed_rows, bound, wider)
        self.raises(TooMany, {"what": "lists", "most": 250}, needed_rows, Book.read("a b c | a > b , a + b > c"), wider)
        self.assertEqual(needed_rows(Book.read("a b c | a > b , a > b , a > b").with_rows(), SAYING), (0,))
        self.raises(TooMany, {"what": "lists", "most": 250}, are_same, abc, wider, wider)

    def test_too_many_parts(self):
        long = Saying([("holds", Comparison.read("a > b")), *[("not", at) for at in range(1998)]])
        error = {"what": "parts", "most": 2000}
        two = Book(["a", "b"])
        self.assertEqual(follows(two, Saying(list(long.parts[:-2])), no()).word, "hangs")
        for function in (follows, are_same):
            self.raises(TooMany, error, function, two, long, Saying.read("[ b > a ]"))
            self.raises(Impossible, {"paper": fit(IMPOSSIBLE)}, function, IMPOSSIBLE, long, Saying.read("[ b > a ]"))
            self.raises(NoThing, {"name": "c"}, function, two, long, Saying.read("[ b > c ]"))
        self.assertIs(shows_follows(two, long, Saying.read("[ b > a ]"), None), False)
        chart = charted(BOOK, [Pair.read("a : b")])
        self.assertIs(shows_follows(BOOK, ~long, Saying.read("[ b > a ]"), Always(chart)), long.holds(SCALE))
        self.assertIs(shows_follows(BOOK, long, Saying.read("[ b > a ]"), Never(chart)), long.holds(SCALE))

    def test_errors(self):
        paper = {"paper": fit(IMPOSSIBLE)}
        for function in (judged, truth_in, needed_rows):
            self.refuses(BadBook, "book", lambda value: function(value, None), [is_a(Book)])
            self.refuses(BadSaying, "saying", lambda value: function(IMPOSSIBLE, value), [is_a(Saying)])
            self.raises(NoThing, {"name": "c"}, function, IMPOSSIBLE, Saying.read("( and [ d > a ] [ a + c > b ] )"))
            self.raises(Impossible, paper, function, IMPOSSIBLE, SAYING)
        for function in (follows, are_same):
            self.refuses(BadBook, "book", lambda value: function(value, None, None), [is_a(Book)])
            self.refuses(BadSaying, "one", lambda value: function(IMPOSSIBLE, value, None), [is_a(Saying)])
            self.refuses(BadSaying, "other", lambda value: function(IMPOSSIBLE, Saying.read("[ z > 0 ]"), value), [is_a(Saying)])
            self.raises(NoThing, {"name": "z"}, function, IMPOSSIBLE, Saying.read("[ z > 0 ]"), Saying.read("[ c > 0 ]"))
            self.raises(NoThing, {"name": "c"}, function, IMPOSSIBLE, SAYING, Saying.read("[ c > d ]"))
            self.raises(Impossible, paper, function, IMPOSSIBLE, SAYING, SAYING)
        self.refuses(BadPaper, "chart", lambda value: judged_by(value, None), [is_a(Chart)])
        self.refuses(BadSaying, "saying", lambda value: judged_by(CHART, value), [is_a(Saying)])
        self.raises(BadPaper, {"part": "chart"}, judged_by, Paper("chart", *CHART.parts), SAYING)
        self.raises(NoPair, {"pair": "b : c"}, judged_by, CHART, Saying.read("( and [ a > b ] [ c > b ] [ a > 0 ] )"))
        hung = {"kept": None, "broken": None}
        with self.assertRaises(Hanging) as caught:
            needed_rows(JURY, FIRST)
        self.assertEqual(set(vars(caught.exception)), set(hung))


class ShowsJudged(Case):
    def test_bent(self):
        source = random.Random(101)
        for book, pairs, saying in sayings(200, 102):
            paper = judged(book, saying)
            word = paper.word
            if isinstance(paper, Hangs):
                kept, broken = paper.parts
                self.assertIs(shows_judged(book, saying, Hangs(kept * Ratio(2, 3), broken * 5)), True)
                wider = Scale({"z": 1, **{thing: kept.worth(Balance.of(thing)) for thing in kept.things}})
                fewer = kept.only(kept.things[1:])
                for value in (Hangs(broken, kept), Hangs(kept, kept), Hangs(broken, broken), Hangs(wider, broken),
                              Hangs(fewer, broken), Hangs(broken, wider), Denial("hangs", kept, broken), Always(kept),
                              Hangs(kept, None), Hangs(None, broken), Paper("hangs", kept, broken)):
                    self.assertIs(shows_judged(book, saying, value), False)
                chart = charted(book, saying.pairs)
                self.assertIs(shows_judged(book, saying, Always(chart)), False)
                self.assertIs(shows_judged(book, saying, Never(chart)), False)
                scale = Scale({thing: source.randint(-3, 3) for thing in book.things})
                for at in range(2):
                    told = book.keeps(scale) and saying.holds(scale) is (at == 0)
                    value = Hangs(scale, broken) if at == 0 else Hangs(kept, scale)
                    self.assertIs(shows_judged(book, saying, value), told)
                continue
            more = list({str(pair): pair for pair in [*pairs, *saying.pairs]}.values())
            source.shuffle(more)
            wider = charted(book, more)
            for made in (Always, Never):
                self.assertIs(shows_judged(book, saying, made(paper.chart)), made.__name__.lower() == word)
                self.assertIs(shows_judged(book, saying, made(wider)), made.__name__.lower() == word)
                self.assertIs(shows_judged(book, ~saying, made(wider)), made.__name__.lower() != word)
            made = type(paper)
            chart = paper.chart
            bends = [Chart(chart.pairs[1:], *chart.parts[1:]), Chart(*chart.parts[:3], ("list", 0)),
                     Chart([*chart.pairs, chart.pairs[0]] if chart.pairs else [Pair.read("z : 0")], *chart.parts[1:]),
                     Chart(chart.pairs, chart.lists[1:], chart.scales[1:], chart.tree)]
            for bend in bends:
                told = bend == chart
                self.assertIs(shows_judged(book, saying, made(bend)), told)
            for value in (Paper(word, chart), made([chart]), made(None), chart, Hangs(chart, chart)):
                self.assertIs(shows_judged(book, saying, value), False)
            if saying.pairs:
                self.assertIs(shows_judged(book, saying, made(charted(book, saying.pairs[1:]))), False)
            for other in (book.above_nothing(), book.with_things("z"), *[book.without(at) for at in range(len(book))]):
                told = shows_chart(other, chart.pairs, chart)
                self.assertIs(shows_judged(other, saying, paper), told)

    def test_charts_of_other_things(self):
        book = Book.read("a b z | a > b")
        chart = charted(book, [Pair.read("a : b"), Pair.read("a : z")])
        self.assertIs(shows_judged(book, SAYING, Always(chart)), True)
        self.assertIs(shows_judged(BOOK, SAYING, Always(chart)), False)
        twice = Chart([*CHART.pairs, *CHART.pairs], [(1, 1)], [SCALE], (
            "branch", ("branch", ("list", 0), ("barred", (1, 0, -1)), ("barred", (1, 0, 1))), ("barred", (1, -1)),
            ("barred", (1, 1))))
        self.assertIs(shows_judged(BOOK, SAYING, Always(CHART)), True)
        self.assertIs(shows_judged(BOOK, SAYING, Always(twice)), False)
        foreign = Chart([*CHART.pairs, Pair.read("z : 0")], [(1, 1)], [SCALE], CHART.tree)
        self.assertIs(shows_judged(BOOK, SAYING, Always(foreign)), False)
        for value in ODD:
            for at in range(4):
                parts = list(CHART.parts)
                parts[at] = value
                told = type(value) is list and at == 0 and len(value) == 1 and type(value[0]) is Pair
                self.assertIs(shows_judged(BOOK, SAYING, Always(Chart(*parts))), told)

    def test_any_values(self):
        for value in ODD:
            for book in (BOOK, IMPOSSIBLE, Book(["a", "b"])):
                for paper in (value, Always(value), Never(value), Hangs(value, value), Hangs(SCALE, value), Fits(value)):
                    self.assertIs(shows_judged(book, SAYING, paper), isinstance(paper, Always) and value is CHART and book is BOOK)
                    self.assertIs(shows_follows(book, yes(), SAYING, paper),
                                  isinstance(paper, Always) and value is CHART and book is BOOK)

    def test_impossible_books(self):
        for paper in (Always(CHART), Never(CHART), Hangs(SCALE, SCALE), Hangs(SCALE, SCALE * -1)):
            self.assertIs(shows_judged(IMPOSSIBLE, SAYING, paper), False)
            self.assertIs(shows_follows(IMPOSSIBLE, SAYING, SAYING, paper), False)

    def test_many_pairs(self):
        book = Book.read("a b | a > 50 b , b > 0")
        many = both_of([of_comparison(Comparison.read(f"a > {count} b")) for count in range(2, 24)])
        tree = ("list", 0)
        for at in reversed(range(22)):
            tree = ("branch", tree, ("barred", [1, 48 - at, *[0] * at, -1]), ("barred", [1, 48 - at, *[0] * at, 1]))
        chart = Chart(many.pairs, [(1,) * 22], [Scale({"a": 60, "b": 1})], tree)
        self.assertEqual((shows_judged(book, many, Always(chart)), shows_judged(book, many, Never(chart))), (True, False))
        self.assertEqual((shows_follows(book, many, no(), Never(chart)), shows_follows(book, ~many, many, Never(chart))),
                         (True, False))

    def test_shows_follows(self):
        for book, pairs, one in sayings(100, 103, pairs=3):
            if not pairs:
                continue
            other = random_saying(random.Random(str(one)), pairs)
            paper = follows(book, one, other)
            for value in (paper, judged(book, one), judged(book, other), judged(book, ~other | one), Hangs(SCALE, SCALE)):
                self.assertIs(shows_follows(book, one, other, value), shows_judged(book, ~one | other, value))

    def test_errors(self):
        self.refuses(BadBook, "book", lambda value: shows_judged(value, None, None), [is_a(Book)])
        self.refuses(BadSaying, "saying", lambda value: shows_judged(IMPOSSIBLE, value, None), [is_a(Saying)])
        self.raises(NoThing, {"name": "c"}, shows_judged, IMPOSSIBLE, Saying.read("( and [ d > a ] [ a + c > b ] )"), None)
        self.refuses(BadBook, "book", lambda value: shows_follows(value, None, None, None), [is_a(Book)])
        self.refuses(BadSaying, "one", lambda value: shows_follows(IMPOSSIBLE, value, None, None), [is_a(Saying)])
        self.refuses(BadSaying, "other", lambda value: shows_follows(IMPOSSIBLE, Saying.read("[ z > 0 ]"), value, None), [
            is_a(Saying)])
        self.raises(NoThing, {"name": "z"}, shows_follows, BOOK, Saying.read("[ z > 0 ]"), Saying.read("[ c > 0 ]"), None)
        self.raises(NoThing, {"name": "c"}, shows_follows, BOOK, SAYING, Saying.read("[ c > d ]"), None)


if __name__ == "__main__":
    import unittest
    unittest.main()
