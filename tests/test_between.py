"""[14] and scaleborn/between.py."""

import random

from scaleborn.between import Between, between
from scaleborn.books import Book
from scaleborn.charts import charted
from scaleborn.check_between import shows_between
from scaleborn.check_charts import shows_chart
from scaleborn.comparisons import Comparison, Pair
from scaleborn.errors import BadBook, BadSaying, Impossible, NoThing, TooMany
from scaleborn.hands import Clash, Together
from scaleborn.rounds import fit
from scaleborn.sayings import Saying, both_of, either_of, no, of_comparison, yes
from scaleborn.verdicts import follows, truth_in
from support import BOOK, CHART, SAYING, Case, is_a
from test_charts import IMPOSSIBLE, random_pairs, random_saying
from test_hands import are_together, are_uses, multiple, some_hands, summed, union, uses

LOW, HIGH = Book.read("a x y | x > a"), Book.read("b x y | b > x")


def brings_about(one, saying, other, wanted):
    """Whether the wanted one holds wherever both hands are together and the saying holds."""
    things = union(one, other)
    joined = Book(things, list({str(row): row for row in [*one.rows, *other.rows]}.values()))
    return not are_together([one, other]) or truth_in(joined, ~saying | wanted) is True


def some_cases(many, seed, rows=2):
    """Two hands, and a saying over the things of each."""
    source = random.Random(seed)
    for one, other in some_hands(many, 2, seed, rows=rows):
        pairs, its = random_pairs(source, one.things, 2, 1), random_pairs(source, other.things, 2, 1)
        if pairs and its:
            yield one, random_saying(source, pairs, 2), other, random_saying(source, its, 2)


def made_saying(mine, saying, its, wanted, clashes):
    """The saying that the clashes make."""
    if True not in mine.truths(saying):
        return no()
    if False not in its.truths(wanted):
        return yes()
    return either_of([both_of([of_comparison(paper.comparison) for paper in some]) for some in clashes])


class Betweens(Case):
    def check(self, one, saying, other, wanted):
        paper = between(one=one, saying=saying, other=other, wanted=wanted)
        self.assertIs(shows_between(one, saying, other, wanted, paper), True)
        again = between(Book(one.things[::-1], list(one.rows)), Saying(list(saying.parts)), other, wanted)
        self.assertEqual(again, paper)
        if not brings_about(one, saying, other, wanted):
            self.assertIs(type(paper), Together)
            self.assertEqual(paper.scale.things, union(one, other))
            self.assertTrue(one.keeps(paper.scale) and other.keeps(paper.scale))
            self.assertTrue(saying.holds(paper.scale) and not wanted.holds(paper.scale))
            return paper
        self.assertIs(type(paper), Between)
        self.assertIs(shows_chart(one, saying.pairs, paper.mine), True)
        self.assertIs(shows_chart(other, wanted.pairs, paper.its), True)
        self.check_clashes(one, saying, other, wanted, paper)
        self.assertEqual(paper.saying, made_saying(paper.mine, saying, paper.its, wanted, paper.clashes))
        self.assertLessEqual(set(paper.saying.things), set(one.things) & set(other.things))
        # It holds wherever the one does, and makes sure of the wanted one.
        self.assertTrue(follows(one, saying, paper.saying))
        self.assertTrue(follows(other, paper.saying, wanted))
        return paper

    def check_clashes(self, one, saying, other, wanted, paper):
        kept = [told for told, held in zip(paper.mine.lists, paper.mine.truths(saying)) if held]
        broken = [told for told, held in zip(paper.its.lists, paper.its.truths(wanted)) if not held]
        if not kept or not broken:
            self.assertEqual(paper.clashes, ())
            return
        self.assertEqual([len(some) for some in paper.clashes], [len(broken)] * len(kept))
        for told, some in zip(kept, paper.clashes):
            for wrong, found in zip(broken, some):
                self.assertIs(type(found), Clash)
                mine = [*one.rows, *[pair.as_rows(outcome) for pair, outcome in zip(saying.pairs, told)]]
                its = [*other.rows, *[pair.as_rows(outcome) for pair, outcome in zip(wanted.pairs, wrong)]]
                self.assertTrue(are_uses(mine, found.first) and are_uses(its, found.second))
                self.assertTrue(multiple(summed(mine, found.first), found.comparison.balance))
                self.assertTrue(multiple(summed(its, found.second), -found.comparison.balance))
                self.assertEqual(found.comparison.kind, ">" if uses(mine, found.first) else ">=")
                self.assertTrue(uses(mine, found.first) or uses(its, found.second))

    def test_example(self):
        link = between(LOW, Saying.read("[ a > y ]"), HIGH, Saying.read("[ b > y ]"))
        self.assertEqual(([[str(one.comparison) for one in some] for some in link.clashes], link.saying.things),
                         ([["x > y", "x > y"]], ("x", "y")))
        self.assertEqual((between(LOW, Saying.read("[ a > y ]"), HIGH, Saying.read("[ y > b ]")).word,
                          between(LOW, no(), HIGH, no()).saying == no()), ("together", True))

    def test_papers(self):
        paper = Between(clashes=[[1]], its=2, mine=CHART, saying=SAYING)
        self.assertEqual((paper.word, bool(paper), paper.parts), ("between", True, (SAYING, CHART, 2, ((1,),))))
        self.assertEqual((paper.saying, paper.mine, paper.its, paper.clashes), paper.parts)

    def test_many(self):
        counts = {}
        for one, saying, other, wanted in some_cases(260, 361):
            try:
                paper = self.check(one, saying, other, wanted)
            except TooMany as error:
                self.assertEqual((error.what, error.most), ("lists", 8))
                kept = charted(one, saying.pairs).truths(saying).count(True)
                broken = charted(other, wanted.pairs).truths(wanted).count(False)
                self.assertGreater(max(kept, broken), 8)
                continue
            key = paper.word if not paper else (len(paper.clashes) > 0)
            counts[key] = counts.get(key, 0) + 1
        self.assertGreater(min(counts[key] for key in ("together", True, False)), 15, counts)

    def test_common_sayings(self):
        # Sayings about common things bring about themselves and what follows from them.
        some = 0
        for one, saying, other, wanted in some_cases(160, 362):
            common = [pair for pair in saying.pairs if set(pair.things) <= set(other.things)]
            many = [charted(book, (saying | wanted).pairs if book == other else saying.pairs) for book in (one, other)
                    if set(saying.things) <= set(book.things)]
            if common != list(saying.pairs) or max(len(chart) for chart in many) > 8:
                continue
            self.assertTrue(self.check(one, saying, other, saying))
            self.assertTrue(self.check(one, saying, other, saying | wanted))
            some += 1
        self.assertGreater(some, 5)

    def test_nothing_to_clash(self):
        some = Saying.read("[ a > y ]")
        for saying, wanted, told in ((no(), no(), no()), (no(), yes(), no()), (some, yes(), yes()), (yes(), yes(), yes()),
                                     (Saying.read("[ a > x ]"), no(), no()), (some, Saying.read("[ b > x ]"), yes())):
            paper = self.check(LOW, saying, HIGH, wanted)
            self.assertEqual((paper.saying, paper.clashes), (told, ()))
        self.assertEqual(self.check(LOW, yes(), HIGH, no()).word, "together")

    def test_hands_that_clash(self):
        one, other = Book.read("a x y | x > a , a > y"), Book.read("b x y | y >= b , b >= x")
        paper = self.check(one, yes(), other, no())
        self.assertEqual(([[str(two.comparison) for two in some] for some in paper.clashes], str(paper.saying)),
                         ([["x > y"]], "[ x > y ]"))
        for saying, wanted in (("[ a > y ]", "[ b > x ]"), ("[ y >= x ]", "[ x = y ]"), ("[ a > 0 ]", "[ b > 0 ]")):
            self.assertTrue(self.check(one, Saying.read(saying), other, Saying.read(wanted)))

    def test_more_than_sixteen_rows(self):
        one = Book(["a", "x", "y"], [Comparison.read("x >= a")] * 16)
        other = Book(["b", "x", "y"], [Comparison.read("b >= x")] * 16)
        paper = self.check(one, Saying.read("[ a > y ]"), other, Saying.read("( or [ b > y ] [ x = y ] )"))
        self.assertEqual(len(paper.clashes[0][0].first), 17)
        self.assertEqual(len(paper.clashes[0][0].second), 18)

    def test_eight_and_nine_lists(self):
        one = Book.read("a x y | x > 0 , a > x")
        other = Book.read("b x y | x > 0 , b > x")
        for many, fits in ((4, True), (5, False)):
            # So many fractions give 2 N + 1 outcome lists, of which one is left out.
            pairs = [Pair.read(f"a : {count} x") for count in range(2, 2 + many)]
            mine = ~Saying([*[("holds", Comparison(pair.balance, ">")) for pair in pairs], ("and", *range(many))])
            its = mine.renamed({"a": "b"})
            self.assertEqual(charted(one, mine.pairs).truths(mine).count(True), 2 * many)
            for saying, wanted in ((mine, yes()), (mine, no()), (yes(), ~its), (no(), ~its), (mine, ~its)):
                if fits:
                    self.check(one, saying, other, wanted)
                else:
                    self.raises(TooMany, {"what": "lists", "most": 8}, between, one, saying, other, wanted)

    def test_errors(self):
        self.refuses(BadBook, "one", lambda value: between(value, None, None, None), [is_a(Book)])
        self.refuses(BadSaying, "saying", lambda value: between(IMPOSSIBLE, value, None, None), [is_a(Saying)])
        far = Saying.read("( and [ d > a ] [ a + c > b ] )")
        self.refuses(BadBook, "other", lambda value: between(IMPOSSIBLE, far, value, None), [is_a(Book)])
        self.refuses(BadSaying, "wanted", lambda value: between(IMPOSSIBLE, far, BOOK, value), [is_a(Saying)])
        other = Book.read("b g | b > g , g > b")
        six = Book(list("cdefgh"))
        self.raises(NoThing, {"name": "c"}, between, IMPOSSIBLE, far, other, far)
        self.raises(NoThing, {"name": "a"}, between, IMPOSSIBLE, SAYING, other, far)
        self.raises(Impossible, {"paper": fit(IMPOSSIBLE)}, between, IMPOSSIBLE, SAYING, six, no())
        self.raises(Impossible, {"paper": fit(other)}, between, six, no(), other, no())
        many = both_of([of_comparison(Comparison.read(f"a > {count} b")) for count in range(2, 23)])
        self.raises(TooMany, {"what": "things", "most": 6}, between, BOOK, many, six, no())
        self.raises(TooMany, {"what": "pairs", "most": 20}, between, BOOK, many, BOOK, no())
        self.raises(TooMany, {"what": "pairs", "most": 20}, between, BOOK, no(), BOOK, many)


if __name__ == "__main__":
    import unittest
    unittest.main()
