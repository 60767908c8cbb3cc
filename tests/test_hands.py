"""[14], scaleborn/hands.py and scaleborn/chains.py."""

import itertools
import random
import types

from scaleborn.balances import Balance
from scaleborn.books import Book
from scaleborn.chains import Chain, chain_of, clashing_hands
from scaleborn.check_between import shows_chain, shows_clash
from scaleborn.comparisons import Comparison
from scaleborn.errors import BadBook, BadHands, BadSaying, Impossible, NoThing, TooMany
from scaleborn.hands import Clash, Together, clash, settled
from scaleborn.papers import Denial
from scaleborn.rounds import fit, is_possible
from scaleborn.sayings import Saying, both_of, of_comparison
from scaleborn.verdicts import truth_in
from support import BOOK, COMPARISON, SAYING, SCALE, Case, is_a
from test_charts import IMPOSSIBLE, random_pairs, random_saying
from test_rounds import KINDS, is_round, random_book

AB, BC = Book.read("a b | a >= b"), Book.read("b c | b > c")
CA, DE = Book.read("a c | c >= a"), Book.read("d e | d > e")


def summed(rows, weights):
    """What rows, so many times, add up to."""
    total = Balance({})
    for row, weight in zip(rows, weights):
        total = total + row.balance * weight
    return total


def are_uses(rows, weights):
    """Whether these tell how often each row is used."""
    return type(weights) is tuple and len(weights) == len(rows) and all(
        type(weight) is int and (weight >= 0 or row.kind == "=") for row, weight in zip(rows, weights))


def uses(rows, weights):
    return any(row.kind == ">" and weight for row, weight in zip(rows, weights))


def multiple(balance, other):
    """Whether a balance is a multiple of another one by a ratio above 0."""
    return not balance.is_nothing and balance.least() == other.least()


def union(*hands):
    return tuple(sorted({thing for hand in hands for thing in hand.things}))


def are_together(hands):
    """Whether books have a scale together."""
    rows = {str(row): row for hand in hands for row in hand.rows}
    return is_possible(Book(union(*hands), list(rows.values())))


def some_hands(many, count, seed, rows=3, shared="xy", kinds=KINDS):
    """Lists of possible books with some common things."""
    source = random.Random(seed)
    while many > 0:
        hands = []
        for at in range(count):
            names = sorted({*source.sample(shared, source.randint(min(1, len(shared)), len(shared))), "abcd"[at]})
            hand = random_book(source, names, source.randint(0, rows), 2)
            hands.append(Book(names, [Comparison(row.balance, source.choice(kinds)) for row in hand.rows]))
        if all(is_possible(hand) for hand in hands) and len(union(*hands)) <= 6:
            yield hands
            many -= 1


class Hands(Case):
    def check(self, one, other):
        """A clash that adds up, or a scale together."""
        paper = clash(one=one, other=other)
        self.assertIs(shows_clash(one, other, paper), True)
        self.assertEqual(clash(Book(one.things[::-1], list(one.rows)), Book(other.things, list(other.rows))), paper)
        if are_together([one, other]):
            self.assertIs(type(paper), Together)
            self.assertEqual(paper.scale.things, union(one, other))
            self.assertTrue(one.keeps(paper.scale.only(one.things)) and other.keeps(paper.scale.only(other.things)))
            return paper
        self.assertIs(type(paper), Clash)
        told = paper.comparison
        self.assertTrue(are_uses(one.rows, paper.first) and are_uses(other.rows, paper.second))
        self.assertLessEqual(set(told.things), set(one.things) & set(other.things))
        self.assertTrue(multiple(summed(one.rows, paper.first), told.balance))
        self.assertTrue(multiple(summed(other.rows, paper.second), -told.balance))
        self.assertEqual(told.kind, ">" if uses(one.rows, paper.first) else ">=")
        self.assertTrue(uses(one.rows, paper.first) or uses(other.rows, paper.second))
        # The one makes sure of it, the other of its contrary.
        self.assertIs(truth_in(one, of_comparison(told)), True)
        self.assertIs(truth_in(other, of_comparison(told)), False)
        return paper

    def test_example(self):
        one, two = Book.read("a b x y | a > x , x > b + y"), Book.read("b c x y | y > c , b + c > x")
        self.assertEqual(
            [str(clash(one, two).comparison), str(clash(two, one).comparison), clash(one, two.without(0)).word,
             clash(one, two).first[0]], ["x > b + y", "b + y > x", "together", 0])
        self.assertEqual(str(clash(Book.read("a b | a >= b"), Book.read("a b | b > a")).comparison), "a >= b")
        self.assertEqual(settled(Book.read("a x | a > x"), Book.read("b x | x > b"), Saying.read("[ a > b ]")), (None, None, True))

    def test_papers(self):
        paper = Clash(second=[1], first=(2,), comparison=COMPARISON)
        self.assertEqual((paper.word, bool(paper), paper.parts), ("clash", True, (COMPARISON, (2,), (1,))))
        self.assertEqual((paper.comparison, paper.first, paper.second), paper.parts)
        paper = Together(scale=SCALE)
        self.assertEqual((paper.word, bool(paper), paper.parts, paper.scale), ("together", False, (SCALE,), SCALE))
        self.assertIsInstance(paper, Denial)

    def test_many(self):
        counts = {}
        for one, other in some_hands(600, 2, 341):
            paper = self.check(one, other)
            kind = paper.word if not paper else paper.comparison.kind
            counts[kind] = counts.get(kind, 0) + 1
        self.assertGreater(min(counts[kind] for kind in ("together", ">", ">=")), 10)

    def test_no_common_thing(self):
        for one, other in some_hands(40, 2, 342, shared=""):
            self.assertEqual(self.check(one, other).word, "together")

    def test_sixteen_rows_each(self):
        # Together they have more rows than a book may have.
        one = Book(["a", "x", "y"], [Comparison.read("x >= a")] * 15 + [Comparison.read("a > y")])
        other = Book(["b", "x", "y"], [Comparison.read("y >= b")] * 15 + [Comparison.read("b >= x")])
        self.assertEqual(str(self.check(one, other).comparison), "x > y")
        self.assertEqual(self.check(one, other.without(15)).word, "together")

    def test_settled(self):
        source, seen, counts = random.Random(343), 0, {}
        for one, other in some_hands(150, 2, 344, rows=2):
            things = list(union(one, other))
            pairs = random_pairs(source, things, 2)
            if not pairs or not are_together([one, other]):
                continue
            saying = random_saying(source, pairs, 2)
            joined = Book(things, [*one.rows, *other.rows])
            free = [truth_in(Book(things, book.rows), saying) for book in (one, other)]
            found = settled(one=one, other=other, saying=saying)
            self.assertEqual(found, (*free, truth_in(joined, saying)))
            for truth in free:
                self.assertTrue(truth is None or found[2] is truth)
            counts[found[2]] = counts.get(found[2], 0) + 1
            seen += 1
        self.assertGreater(min(counts.values()), 4)
        self.assertEqual(settled(Book.read("a x | a > x"), Book.read("b x | x > b"), Saying.read("[ x > a ]")), (False, None, False))
        self.assertEqual(settled(AB, DE, Saying.read("[ d > e ]")), (None, True, True))

    def test_errors(self):
        six, seven = Book(list("abcdef")), Book(["a", "g"])
        for function, more in ((clash, []), (settled, [SAYING]), (lambda one, other, *_: shows_clash(one, other, None), [])):
            self.refuses(BadBook, "one", lambda value: function(value, None, *more), [is_a(Book)])
            self.refuses(BadBook, "other", lambda value: function(IMPOSSIBLE, value, *more), [is_a(Book)])
        other = Book.read("b g | b > g , g > b")
        for function, more in ((clash, []), (settled, [SAYING])):
            self.raises(Impossible, {"paper": fit(IMPOSSIBLE)}, function, IMPOSSIBLE, other, *more)
            self.raises(Impossible, {"paper": fit(IMPOSSIBLE)}, function, IMPOSSIBLE, six.with_things(), *more)
            self.raises(Impossible, {"paper": fit(other)}, function, six, other, *more)
            self.raises(TooMany, {"what": "things", "most": 6}, function, six, seven, *more)
        self.assertEqual(clash(six, Book(list("bcdefa"))).word, "together")
        self.refuses(BadSaying, "saying", lambda value: settled(IMPOSSIBLE, six, value), [is_a(Saying)])
        far = Saying.read("( and [ h > a ] [ a + g > z ] )")
        self.raises(NoThing, {"name": "g"}, settled, IMPOSSIBLE, six, far)
        one, two = Book(["a", "b"], [COMPARISON] * 9), Book.read("a b | b > a")
        self.raises(TooMany, {"what": "rows", "most": 16}, settled, one, two.with_rows(*two.rows * 7), SAYING)
        with self.assertRaises(Impossible) as caught:
            settled(one, two.with_rows(*two.rows * 6), SAYING)
        self.assertEqual(caught.exception.paper, clash(one, two.with_rows(*two.rows * 6)))
        many = both_of([of_comparison(Comparison.read(f"a > {count} b")) for count in range(2, 23)])
        self.raises(TooMany, {"what": "pairs", "most": 20}, settled, BOOK, BOOK, many)


class Chains(Case):
    def check(self, hands):
        """A chain of the fewest first hands, or a scale of all; and the fewest hands that clash."""
        paper = chain_of(hands=hands)
        self.assertIs(shows_chain(hands, paper), True)
        self.assertEqual(chain_of(tuple([Book(hand.things[::-1], list(hand.rows)) for hand in hands])), paper)
        sets = [numbers for many in range(2, len(hands) + 1) for numbers in itertools.combinations(range(len(hands)), many)]
        few = [numbers for numbers in sets if not are_together([hands[number] for number in numbers])]
        self.assertEqual(clashing_hands(hands=hands), few[0] if few else ())
        first = [many for many in range(2, len(hands) + 1) if not are_together(hands[:many])]
        if not first:
            self.assertIs(type(paper), Together)
            self.assertEqual(paper.scale.things, union(*hands))
            self.assertTrue(all(hand.keeps(paper.scale.only(hand.things)) for hand in hands))
            return paper
        self.assertIs(type(paper), Chain)
        self.assertEqual((len(paper.weights), len(paper.links)), (first[0], first[0] - 1))
        self.assertTrue(all(are_uses(hand.rows, weights) for hand, weights in zip(hands, paper.weights)))
        rows = [row for hand in hands[:first[0]] for row in hand.rows]
        self.assertTrue(is_round(types.SimpleNamespace(rows=rows), [weight for weights in paper.weights for weight in weights]))
        total, used = Balance({}), False
        for at, link in enumerate(paper.links):
            total = total + summed(hands[at].rows, paper.weights[at])
            used = used or uses(hands[at].rows, paper.weights[at])
            if total.is_nothing:
                self.assertIsNone(link)
                self.assertFalse(used)
                continue
            self.assertEqual(link, Comparison(total, ">" if used else ">="))
            self.assertLessEqual(set(link.things), set(union(*hands[:at + 1])) & set(union(*hands[at + 1:first[0]])))
        # Each hand, with the link ahead, makes sure of its link; the last one of the last link's contrary.
        for at in range(first[0]):
            ahead = paper.links[at - 1] if at > 0 else None
            things = sorted({*hands[at].things, *(ahead.things if ahead else ())})
            if at < first[0] - 1 and paper.links[at]:
                book = Book(sorted({*things, *paper.links[at].things}), [*hands[at].rows, *([ahead] if ahead else [])])
                self.assertIs(truth_in(book, of_comparison(paper.links[at])), True)
            if at == first[0] - 1 and ahead:
                self.assertIs(truth_in(Book(things, hands[at].rows), of_comparison(ahead)), False)
            if not any(paper.weights[at]) and first[0] > 2:
                fewer = [hand for number, hand in enumerate(hands[:first[0]]) if number != at]
                self.assertFalse(are_together(fewer))
        return paper

    def test_example(self):
        self.assertEqual([[str(link) for link in chain_of(hands).links] for hands in ([AB, BC, CA], [DE, BC, AB, CA])],
                         [["a >= b", "a > c"], ["None", "b > c", "a > c"]])
        self.assertEqual([clashing_hands([DE, BC, AB, CA]), chain_of([AB, DE, BC]).word, clashing_hands([AB, BC])],
                         [(1, 2, 3), "together", ()])

    def test_papers(self):
        paper = Chain(weights=[[1], (2,)], links=[None])
        self.assertEqual((paper.word, bool(paper), paper.parts), ("chain", True, ((None,), ((1,), (2,)))))
        self.assertEqual((paper.links, paper.weights), paper.parts)

    def test_many(self):
        counts = {}
        for count, many, seed in ((2, 250, 351), (3, 250, 352), (4, 200, 353)):
            for hands in some_hands(many, count, seed, rows=2, kinds=(">", ">=")):
                paper = self.check(hands)
                key = (count, len(paper.weights) if paper else 0)
                counts[key] = counts.get(key, 0) + 1
        for key in ((2, 2), (3, 2), (3, 3), (4, 3), (4, 4), (4, 0)):
            self.assertGreater(counts.get(key, 0), 2, counts)

    def test_rings(self):
        source, lengths = random.Random(354), {}
        ring = [Book.read(text) for text in ("a b | a > b", "b c | b >= c", "c d | c >= d", "a d | d >= a", "e f | e > f")]
        for _ in range(60):
            hands = source.sample(ring, source.choice([2, 3, 4, 4, 4]))
            paper = self.check(hands)
            lengths[bool(paper)] = lengths.get(bool(paper), 0) + 1
            if paper:
                self.assertEqual(clashing_hands(hands), (0, 1, 2, 3))
        self.assertEqual(len(lengths), 2)
        # A hand none of whose rows is used, first, between and not at all.
        three = [Book.read(text) for text in ("a b | a > b", "b c | b >= c", "a c | c >= a")]
        for at, links in ((0, ["None", "a > b", "a > c"]), (1, ["a > b", "a > b", "a > c"]),
                          (2, ["a > b", "a > c", "a > c"]), (3, ["a > b", "a > c"])):
            hands = [*three[:at], DE, *three[at:]]
            self.assertEqual([str(link) for link in self.check(hands).links], links)
            self.assertEqual(clashing_hands(hands), tuple(number for number in range(4) if number != at))

    def test_equal_hands(self):
        self.assertEqual(self.check([AB, AB]).word, "together")
        other = Book.read("a b | b > a")
        self.assertEqual(clashing_hands([AB, AB, other]), (0, 2))
        self.assertEqual(clashing_hands([AB, other, other, AB]), (0, 1))
        self.assertEqual([str(link) for link in self.check([AB, AB, other]).links][1:], ["a >= b"])

    def test_what_is_passed_stays(self):
        hands = [AB, BC, CA]
        chain_of(hands), clashing_hands(hands), shows_chain(hands, None)
        self.assertEqual(hands, [AB, BC, CA])

    def test_errors(self):
        def is_row(value):
            return isinstance(value, (list, tuple)) and len(value) > 1 and all(isinstance(one, Book) for one in value)

        for function in (chain_of, clashing_hands, lambda hands: shows_chain(hands, None)):
            self.refuses(BadHands, "hands", function, [is_row])
            for hands in ([], [AB], (IMPOSSIBLE,), [AB, None], [AB, SAYING], {0: AB, 1: AB}):
                self.raises(BadHands, {"part": "hands"}, function, hands)
        other = Book.read("b g | b > g , g > b")
        far = Book(["u", "v", "w", "x", "y", "z"])
        for function in (chain_of, clashing_hands):
            self.raises(Impossible, {"paper": fit(other)}, function, [AB, far, other, BC, IMPOSSIBLE])
            self.raises(TooMany, {"what": "hands", "most": 4}, function, [AB, far, AB, AB, AB])
            self.raises(TooMany, {"what": "things", "most": 6}, function, [Book(list("abcdef")), Book(["g"])])
            function([Book(list("abcdef")), AB, BC, CA])


if __name__ == "__main__":
    import unittest
    unittest.main()
