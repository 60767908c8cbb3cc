"""[6], scaleborn/hulls.py and shows_open of scaleborn/check_rounds.py."""

import itertools
import random
import unittest
from fractions import Fraction

from scaleborn.balances import Balance
from scaleborn.books import Book
from scaleborn.check_rounds import shows_open
from scaleborn.comparisons import Comparison, Pair
from scaleborn.errors import BadBalance, BadBook, BadPair, Impossible, NoThing
from scaleborn.hulls import Opened, Shut, alikes, are_one, is_held_alike, is_open, open_scales, swept
from scaleborn.papers import Denial, Paper
from scaleborn.ratios import Ratio
from scaleborn.rounds import Fits, Round, fit, is_possible
from scaleborn.scales import Scale
from support import BALANCE, BOOK, ODD, PAIR, SCALE, Case, is_a
from test_rounds import is_round, random_books

IMPOSSIBLE = Book.read("a b | a > b , b > a")


def random_balance(source, things, most=2):
    return Balance({thing: source.randint(-most, most) for thing in things})


def possible_books(many, seed):
    return [book for book in random_books(many, seed) if is_possible(book)]


def held_rows(book):
    """The rows whose balances are held alike, by [6]'s facts."""
    found = []
    for at, row in enumerate(book.rows):
        above = book.with_rows(Comparison(row.balance, ">"))
        if row.kind == "=" or row.kind == ">=" and not is_possible(above):
            found.append(row.balance)
    return found


def rank(balances):
    """How many of the balances are needed to make all."""
    rows = [[Fraction(balance.number_of(thing).top, balance.number_of(thing).bottom) for thing in "abcd"]
            for balance in balances]
    found = 0
    for at in range(4):
        lead = next((row for row in rows if row[at]), None)
        if lead:
            found += 1
            rows = [[mine - its * row[at] / lead[at] for mine, its in zip(row, lead)] for row in rows if row is not lead]
    return found


class Hulls(Case):
    def test_example(self):
        told = Book.read("a b c | a > b , b >= c")
        rim = Book.read("a b c d | a >= b , b >= c , c >= a , d > a")
        self.assertEqual(
            [[str(one) for one in alikes(rim)], str(swept(rim, Balance({"a": 2, "d": -1}))),
             are_one(rim, Balance({"a": 1, "d": -1}), Balance({"b": -1, "c": -2, "d": 3}))],
            [["a + -1 c", "b + -1 c"], "2 c + -1 d", True])
        self.assertEqual(
            [is_open(rim, Pair.read("a : b + d")), open_scales(rim, Pair.read("a : d")).outcome, alikes(told),
             is_open(told, Pair.read("b : c"))],
            [True, 1, (), False])
        self.assertEqual(
            [shows_open(rim, Pair.read("a : d"), Shut(1, [0, 0, 0, 1, 1])),
             shows_open(rim, Pair.read("a : d"), Shut(-1, [0, 0, 0, 1, 1]))],
            [True, False])

    def test_alikes(self):
        some = 0
        for book in possible_books(900, 21):
            found = alikes(book)
            self.assertIs(type(found), tuple)
            firsts = [balance.things[0] for balance in found]
            self.assertEqual(firsts, sorted(set(firsts)))
            for balance in found:
                self.assertEqual(balance, balance.least())
                self.assertEqual(balance.number_of(balance.things[0]).sign, 1)
                self.assertEqual([other.number_of(balance.things[0]) != 0 for other in found].count(True), 1)
                for turned in (balance, -balance):
                    self.assertIs(is_possible(book.with_rows(Comparison(turned, ">"))), False)
            held = held_rows(book)
            self.assertEqual(rank(held), len(found))
            self.assertEqual(rank([*held, *found]), len(found))
            some += len(found) > 1
        self.assertGreater(some, 20)
        self.assertEqual(alikes(Book(["a"])), ())
        for text in ("a b c | 2 a = 2 b + c , 3 a = b + 3 c", "a b c | 3 a = b + 3 c , 2 a = 2 b + c"):
            self.assertEqual([str(one) for one in alikes(Book.read(text))], ["4 a + -5 c", "4 b + -3 c"])

    def test_alikes_by_hand(self):
        for text, told in (
                ("a b | a = b", ["a + -1 b"]), ("a b | a = 0 , b = 0", ["a", "b"]), ("a b | 0 >= a , a >= 0", ["a"]),
                ("a b c | a = 2 b + 3 c", ["a + -2 b + -3 c"]),
                ("a b c | a = 2 b + 3 c , a = b", ["a + 3 c", "b + 3 c"]), ("a b c | 2 a + b = 0 , 3 b = c", ["6 a + c", "3 b + -1 c"]),
                ("a b c | b = c , a = c", ["a + -1 c", "b + -1 c"]), ("a b | a >= b , a > 0", []),
                ("a b c | a >= b , b >= a + c , c >= 0", ["a + -1 b", "c"]), ("a b | a + b >= 0 , 0 >= a , 0 >= b", ["a", "b"])):
            self.assertEqual([str(one) for one in alikes(Book.read(text))], told, text)

    def test_swept_and_held_alike(self):
        source = random.Random(22)
        for book in possible_books(700, 23):
            found = alikes(book)
            firsts = [balance.things[0] for balance in found]
            for _ in range(4):
                balance = random_balance(source, book.things) * Ratio(1, 3)
                left = swept(book, balance)
                self.assertFalse(set(firsts) & set(left.things))
                self.assertEqual(rank([*found, balance - left]), len(found))
                self.assertIs(is_held_alike(book, balance), left.is_nothing)
                if not balance.is_nothing:
                    above = [is_possible(book.with_rows(Comparison(turned, ">"))) for turned in (balance, -balance)]
                    self.assertIs(left.is_nothing, above == [False, False])
            self.assertIs(is_held_alike(book, Balance({})), True)
            self.assertEqual(swept(book=book, balance=Balance({})), Balance({}))

    def test_are_one(self):
        source, counts = random.Random(24), {True: 0, False: 0}
        for book in possible_books(500, 25):
            found = alikes(book)
            for _ in range(4):
                one = random_balance(source, book.things)
                other = one * Ratio(source.choice([-3, -1, 0, 1, 2]), 2)
                for held in found:
                    other = other + held * source.randint(-2, 2)
                if source.random() < 0.3:
                    other = random_balance(source, book.things)
                held = [rank([*found, balance]) == len(found) for balance in (one, other)]
                told = not any(held) and rank([*found, one, other]) == len(found) + 1
                self.assertIs(are_one(book, one, other), told)
                self.assertIs(are_one(book, one=other, other=one), told)
                counts[told] += 1
        self.assertGreater(min(counts.values()), 100)

    def test_open_scales(self):
        source, kinds = random.Random(26), {}
        for book in possible_books(800, 27):
            for _ in range(3):
                balance = random_balance(source, book.things)
                if balance.is_nothing:
                    continue
                pair = Pair(balance)
                paper = open_scales(book, pair)
                can = [is_possible(book.with_rows(pair.as_rows(outcome))) for outcome in (1, -1)]
                if all(can):
                    self.assertIs(type(paper), Opened)
                    self.assertEqual((paper.word, bool(paper)), ("opened", True))
                    for scale, outcome in ((paper.more, 1), (paper.less, -1)):
                        self.assertTrue(book.keeps(scale) and scale.outcome(pair) == outcome)
                        self.assertEqual(scale.things, book.things)
                else:
                    self.assertIs(type(paper), Shut)
                    self.assertEqual((paper.word, bool(paper)), ("shut", False))
                    self.assertEqual(paper.outcome, 1 if not can[0] else -1)
                    self.assertTrue(is_round(book.with_rows(pair.as_rows(paper.outcome)), paper.weights))
                    self.assertGreater(paper.weights[-1], 0)
                self.assertIs(is_open(book, pair), all(can))
                self.assertIs(shows_open(book, pair, paper), True)
                self.assertEqual(open_scales(book, pair), paper)
                kinds[tuple(can)] = kinds.get(tuple(can), 0) + 1
        self.assertEqual(len(kinds), 4)
        self.assertGreater(min(kinds.values()), 20)

    def test_sixteen_rows(self):
        book = Book(["a", "b", "c"], [Comparison.read("a > b")] * 15 + [Comparison.read("b >= c")])
        self.assertEqual(open_scales(book, PAIR).outcome, -1)
        self.assertIs(is_open(book, Pair.read("c : 0")), True)
        self.assertIs(shows_open(book, PAIR, open_scales(book, PAIR)), True)
        ring = Book(["a", "b"], [Comparison.read("a >= b"), Comparison.read("b >= a")] * 8)
        self.assertEqual([str(one) for one in alikes(ring)], ["a + -1 b"])
        self.assertEqual(open_scales(ring, PAIR).outcome, 1)

    def test_errors(self):
        for function in (alikes,):
            self.refuses(BadBook, "book", function, [is_a(Book)])
        for function in (swept, is_held_alike):
            self.refuses(BadBook, "book", lambda value: function(value, None), [is_a(Book)])
            self.refuses(BadBalance, "balance", lambda value: function(IMPOSSIBLE, value), [is_a(Balance)])
            self.raises(NoThing, {"name": "c"}, function, IMPOSSIBLE, Balance.of("d", "c", "a"))
        self.refuses(BadBook, "book", lambda value: are_one(value, None, None), [is_a(Book)])
        self.refuses(BadBalance, "one", lambda value: are_one(IMPOSSIBLE, value, None), [is_a(Balance)])
        self.refuses(BadBalance, "other", lambda value: are_one(IMPOSSIBLE, Balance.of("z"), value), [is_a(Balance)])
        self.raises(NoThing, {"name": "z"}, are_one, IMPOSSIBLE, Balance.of("z"), Balance.of("c"))
        self.raises(NoThing, {"name": "c"}, are_one, IMPOSSIBLE, BALANCE, Balance.of("c", "z"))
        for function in (open_scales, is_open, lambda book, pair: shows_open(book, pair, None)):
            self.refuses(BadBook, "book", lambda value: function(value, None), [is_a(Book)])
            self.refuses(BadPair, "pair", lambda value: function(IMPOSSIBLE, value), [is_a(Pair)])
            self.raises(NoThing, {"name": "c"}, function, IMPOSSIBLE, Pair.read("a + c : z"))
        paper = {"paper": fit(IMPOSSIBLE)}
        self.raises(Impossible, paper, alikes, IMPOSSIBLE)
        self.raises(Impossible, paper, swept, IMPOSSIBLE, BALANCE)
        self.raises(Impossible, paper, is_held_alike, IMPOSSIBLE, BALANCE)
        self.raises(Impossible, paper, are_one, IMPOSSIBLE, BALANCE, BALANCE)
        self.raises(Impossible, paper, open_scales, IMPOSSIBLE, PAIR)
        self.raises(Impossible, paper, is_open, IMPOSSIBLE, PAIR)


class ShowsOpen(Case):
    def test_any_values(self):
        for value in ODD:
            for book in (BOOK, IMPOSSIBLE, Book(["a", "b"])):
                self.assertIs(shows_open(book, PAIR, value), False)
                for paper in (Opened(value, value), Shut(value, value), Shut(1, value), Shut(-1, value), Fits(value)):
                    self.assertIs(shows_open(book, PAIR, paper), False)
                self.assertIs(shows_open(book, PAIR, Shut(value, [1, 1])),
                              book is BOOK and type(value) is int and value == -1)
                self.assertIs(shows_open(book, PAIR, Opened(SCALE, value)), False)

    def test_bent_papers(self):
        source, shown = random.Random(31), 0
        for book in possible_books(500, 32):
            balance = random_balance(source, book.things)
            if balance.is_nothing:
                continue
            pair = Pair(balance)
            paper = open_scales(book, pair)
            if paper:
                more, less = paper.more, paper.less
                self.assertIs(shows_open(book, pair, Opened(more * Ratio(2, 3), less * 5)), True)
                for one, other in ((less, more), (more, more), (less, less), (more, less * 0), (more, None)):
                    self.assertIs(shows_open(book, pair, Opened(one, other)), False)
                wider = Scale({"zz": 1, **{thing: more.worth(Balance.of(thing)) for thing in more.things}})
                self.assertIs(shows_open(book, pair, Opened(wider, less)), False)
                self.assertIs(shows_open(book, pair, Opened(more.only(more.things[1:]), less)), False)
                self.assertIs(shows_open(book, pair, Denial("opened", more, less)), False)
                self.assertIs(shows_open(book, pair, Paper("opened", more, less)), False)
                continue
            outcome, weights = paper.outcome, list(paper.weights)
            longer = book.with_rows(pair.as_rows(outcome))
            self.assertIs(shows_open(book, pair, Shut(outcome, [2 * weight for weight in weights])), True)
            self.assertIs(shows_open(book, pair, Shut(-outcome, weights)),
                          is_round(book.with_rows(pair.as_rows(-outcome)), weights))
            others = [weights[:-1], [*weights, 0], [0] * len(weights), [-weight for weight in weights]]
            for at in range(len(weights)):
                for value in (weights[at] + 1, weights[at] - 1, 0):
                    others.append([*weights[:at], value, *weights[at + 1:]])
                for value in (Ratio(weights[at]), str(weights[at]), None):
                    self.assertIs(shows_open(book, pair, Shut(outcome, [*weights[:at], value, *weights[at + 1:]])), False)
            for other in others:
                self.assertIs(shows_open(book, pair, Shut(outcome, other)), is_round(longer, other))
            shown += 1
            for other in (0, 2, True, Ratio(outcome), str(outcome), None):
                self.assertIs(shows_open(book, pair, Shut(other, weights)), False)
            self.assertIs(shows_open(book, pair, Round(weights)), False)
        self.assertGreater(shown, 50)

    def test_impossible_books(self):
        self.assertIs(shows_open(IMPOSSIBLE, PAIR, Shut(1, [1, 1, 0])), True)
        self.assertIs(shows_open(IMPOSSIBLE, PAIR, Shut(-1, [1, 0, 1])), True)
        self.assertIs(shows_open(IMPOSSIBLE, PAIR, Shut(1, [1, 0, 1])), False)
        for worths in itertools.product((-1, 0, 1), repeat=2):
            scale = Scale(dict(zip("ab", worths)))
            self.assertIs(shows_open(book=IMPOSSIBLE, pair=PAIR, value=Opened(scale, scale)), False)


if __name__ == "__main__":
    unittest.main()
