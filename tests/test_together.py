"""The whole program: what all modules answer about one saying agrees ([9], [11], [12], [13], [14], [16], [17], [18])."""

import random

from scaleborn.asks import asked, settled_at
from scaleborn.between import between
from scaleborn.books import Book
from scaleborn.carried import carried_by
from scaleborn.charts import charted
from scaleborn.check_asks import shows_asked
from scaleborn.check_facets import shows_coarsest, shows_facet, shows_whole
from scaleborn.check_said import shows_fewest, shows_said
from scaleborn.check_verdicts import shows_judged
from scaleborn.check_wordings import shows_carried, shows_wordings
from scaleborn.coarsest import coarsest, least_sort
from scaleborn.comparisons import Comparison, Pair
from scaleborn.desk import Desk
from scaleborn.errors import NotCarried, Unlike
from scaleborn.facets import facets, live_pairs
from scaleborn.finer import finer_than, sorts_word
from scaleborn.hands import clash, settled
from scaleborn.live import Live
from scaleborn.mends import mended
from scaleborn.rounds import is_possible
from scaleborn.said import fewest_said, said_by, said_saying
from scaleborn.sayings import Saying, both_of, of_comparison
from scaleborn.sorts import Sort
from scaleborn.spans import span
from scaleborn.struck import struck
from scaleborn.verdicts import are_same, follows, judged, truth_in
from scaleborn.whole import whole_in
from scaleborn.wordings import wordings
from support import Case
from test_charts import random_pairs, random_saying
from test_facets import rich_saying
from test_rounds import KINDS, random_book


def cases(many, seed):
    """Possible books, sayings, and sorts of few pairs."""
    source = random.Random(seed)
    while many > 0:
        names = list("abcd"[:source.randint(2, 4)])
        book = random_book(source, names, source.randint(0, 3), 2)
        book = Book(names, [Comparison(row.balance, source.choice(KINDS)) for row in book.rows])
        pairs = random_pairs(source, names, source.randint(1, 4), 1)
        if not is_possible(book) or not pairs:
            continue
        saying = source.choice([random_saying, rich_saying])(source, source.sample(pairs, min(3, len(pairs))))
        by = Sort(source.sample(pairs, source.randint(0, len(pairs))))
        yield book, saying, source.choice([by, Sort(pairs), Sort(saying.pairs)])
        many -= 1


def coarsest_of(book, saying):
    """What coarsest answers, None where it tells that the book is not strict."""
    try:
        return coarsest(book, saying)
    except Unlike:
        return None


class Together(Case):
    def test_always_never_or_hangs(self):
        words = {}
        for book, saying, by in cases(150, 471):
            truth = truth_in(book, saying)
            words[truth] = words.get(truth, 0) + 1
            paper = judged(book, saying)
            self.assertIs(shows_judged(book, saying, paper), True)
            self.assertEqual(paper.word, {True: "always", False: "never", None: "hangs"}[truth])
            told = wordings(book, saying, by)
            self.assertIs(shows_wordings(book, saying, by, told), True)
            every = told.chart.cut(by)
            self.assertIs(told.inner == every, truth is True)
            self.assertIs(told.outer == (), truth is False)
            empty = Sort([])
            self.assertIs(bool(carried_by(book, saying, empty)), truth is not None)
            self.assertIs(bool(said_by(book, [], saying)), truth is not None)
            self.assertEqual(str(struck(book, saying)) in ("( and )", "( or )"), truth is not None)
            if truth is not None:
                self.assertEqual((facets(book, saying), bool(whole_in(book, saying)), fewest_said(book, [], saying).numbers), ((), True, ()))
                self.assertEqual(asked(book, saying, empty).number, 0)
                self.assertEqual(str(struck(book, saying)), "( and )" if truth else "( or )")
            else:
                self.assertFalse(asked(book, saying, empty))
            live = Live(Book(book.things))
            for row in book.rows:
                live.tell(row)
            self.assertIs(live.watch("s", saying), truth)
            desk = Desk([f"set k book {book}", f"set s saying {saying}", f"set o sort {by}"])
            self.assertEqual(desk.tell("judge k s"), paper.word)
            self.assertEqual(desk.tell("carries k s o"), "yes" if carried_by(book, saying, by) else "no")
            plan = asked(book, saying, by)
            self.assertEqual(desk.tell("ask k s o"), str(plan.number) if plan else "none")
        self.assertGreater(min(words.values()), 10)

    def test_carried_worded_said_and_asked(self):
        counts = {True: 0, False: 0}
        for book, saying, by in cases(170, 472):
            carried = carried_by(book, saying, by)
            counts[bool(carried)] += 1
            self.assertIs(shows_carried(book, saying, by, carried), True)
            told = wordings(book, saying, by)
            self.assertIs(told.outer == told.inner, bool(carried))
            plan = asked(book, saying, by)
            self.assertIs(bool(plan), bool(carried))
            self.assertIs(shows_asked(book, saying, by, plan), True)
            if len(by) <= 2:
                comparisons = [of_comparison(Comparison(pair.balance, kind)) for pair in by for kind in (">", "=")]
                said = said_by(book, comparisons, saying)
                self.assertIs(bool(said), bool(carried))
                self.assertIs(shows_said(book, comparisons, saying, said), True)
                self.assertIs(shows_fewest(book, comparisons, saying, fewest_said(book, comparisons, saying)), True)
                if said:
                    self.assertTrue(are_same(book, said_saying(book, comparisons, saying), saying))
            if not carried:
                self.assertRaises(NotCarried, least_sort, book, saying, by)
                continue
            self.assertTrue(are_same(book, carried.wording, saying))
            least = least_sort(book, saying, by)
            self.assertTrue(carried_by(book, saying, least))
            self.assertTrue(finer_than(book, by, least))
            chart = plan.chart
            for at, truth in enumerate(chart.truths(saying)):
                self.assertIs(settled_at(plan.tree, chart.scales[at].outcomes(by)), truth)
        self.assertGreater(min(counts.values()), 12)

    def test_facets_and_coarsest_sorts(self):
        counts = {}
        for book, saying, by in cases(120, 473):
            found = facets(book, saying)
            pairs = [facet.pair for facet in found]
            for facet in found:
                self.assertIs(shows_facet(book, saying, facet), True)
            self.assertIs(shows_whole(book, saying, whole_in(book, saying)), True)
            self.assertTrue(carried_by(book, saying, Sort(live_pairs(book, saying))))
            enough = bool(carried_by(book, saying, Sort(pairs)))
            paper = coarsest_of(book, saying)
            counts[None if paper is None else paper.word] = counts.get(None if paper is None else paper.word, 0) + 1
            if paper is not None:
                self.assertIs(bool(paper), enough)
                self.assertIs(shows_coarsest(book, saying, paper), True)
                if not paper:
                    self.assertFalse(sorts_word(book, paper.first, paper.second) == "same" and enough)
            if whole_in(book, saying):
                self.assertTrue(enough)
            if carried_by(book, saying, by):
                # Each sort that carries the saying decides what stands in each one.
                self.assertTrue(finer_than(book, by, Sort(pairs)))
                if enough:
                    self.assertEqual(least_sort(book, saying, Sort(pairs)), Sort(pairs))
                self.assertGreaterEqual(asked(book, saying, by).number, min(1, len(pairs)))
        self.assertGreater(counts["coarsest"], 30)

    def test_hands(self):
        source, some = random.Random(474), 0
        for book, saying, _ in cases(120, 475):
            other = Book(book.things, random_book(source, book.things, 2, 1).rows)
            if not is_possible(other):
                continue
            both = book.joined(other)
            paper = clash(book, other)
            self.assertIs(bool(paper), not is_possible(both))
            self.assertIs(bool(paper), len(mended(both).taken) > 0)
            if len(charted(book, saying.pairs)) > 8 or len(charted(other, saying.pairs)) > 8:
                continue
            link = between(book, saying, other, saying)
            # The saying itself stands between, as both hands have all its things.
            self.assertTrue(link)
            self.assertTrue(follows(book, saying, link.saying) and follows(other, link.saying, saying))
            if not paper:
                self.assertEqual(settled(book, other, saying), (truth_in(book, saying), truth_in(other, saying), truth_in(both, saying)))
                some += 1
        self.assertGreater(some, 10)

    def test_names_exchanged(self):
        names = {"a": "x", "b": "a", "c": "b0", "d": "c"}
        for book, saying, by in cases(60, 476):
            moved = {thing: names[thing] for thing in book.things}
            book_there, there = book.renamed(moved), saying.renamed(moved)
            by_there = Sort([Pair(pair.balance.renamed(moved)) for pair in by])
            self.assertEqual(truth_in(book_there, there), truth_in(book, saying))
            self.assertEqual(bool(carried_by(book_there, there, by_there)), bool(carried_by(book, saying, by)))
            self.assertEqual(len(charted(book_there, by_there)), len(charted(book, by)))
            told = [Pair(facet.pair.balance.renamed(moved)) for facet in facets(book, saying)]
            self.assertEqual([facet.pair for facet in facets(book_there, there)], told)
            self.assertEqual(whole_in(book_there, there).word, whole_in(book, saying).word)
            self.assertEqual(struck(book_there, there), struck(book, saying).renamed(moved))
            plan, plan_there = asked(book, saying, by), asked(book_there, there, by_there)
            self.assertEqual(plan.word, plan_there.word)
            if plan:
                self.assertEqual(plan.number, plan_there.number)
            one, other = [coarsest_of(told_book, told_saying) for told_book, told_saying in ((book, saying), (book_there, there))]
            self.assertEqual(getattr(one, "word", None), getattr(other, "word", None))
            above = book.above_nothing()
            if is_possible(above):
                ends = [span(told_book, pair.first.renamed(name), pair.first.renamed(name) * 2) for pair in by.pairs[:1]
                        for told_book, name in ((above, {}), (above.renamed(moved), moved))]
                self.assertTrue(all(end.lowest == end.highest for end in ends))
            more = book.with_rows(*[row.contraries()[0] for row in book.rows])
            if len(more) <= 6:
                self.assertEqual(len(mended(more.renamed(moved)).taken), len(mended(more).taken))
            self.assertEqual(bool(said_by(book_there, [there], both_of([there, there]))), bool(said_by(book, [saying], both_of([saying, saying]))))

    def test_no_value_that_is_passed_changes(self):
        for book, saying, by in cases(25, 477):
            texts = [str(book), str(saying), str(by)]
            values = (Book.read(texts[0]), Saying.read(texts[1]), Sort.read(texts[2]))
            asked(book, saying, by), carried_by(book, saying, by), facets(book, saying), mended(book), struck(book, saying)
            self.assertEqual([str(book), str(saying), str(by)], texts)
            self.assertEqual((book, saying, by), values)


if __name__ == "__main__":
    import unittest
    unittest.main()
