"""[16], scaleborn/mends.py, and shows_mended of scaleborn/check_asks.py."""

import itertools
import random
import time

from scaleborn.balances import Balance
from scaleborn.books import Book
from scaleborn.check_asks import shows_mended
from scaleborn.comparisons import Comparison
from scaleborn.errors import BadBook, TooMany
from scaleborn.mends import Mended, mended
from scaleborn.papers import Denial
from scaleborn.ratios import Ratio
from scaleborn.rounds import is_possible
from scaleborn.scales import Scale
from support import BOOK, ODD, SCALE, Case, bent_all_through, bent_papers, is_a
from test_rounds import KINDS, is_round, random_book

FREE = Book(["a", "b", "c"])
THREE = Book.read("a b c d | a + b > c + d , c > a , d > b")
FOUR = Book.read("a b c d | a > b , b > a , b > c , c > b , c > d , d > c , a > 0 , 0 > a")


def fewest(book, most=3):
    """The fewest rows without which a book is possible, the first as tuples; None if they are more."""
    for count in range(most + 1):
        for taken in itertools.combinations(range(len(book.rows)), count):
            if is_possible(book.without(*taken)):
                return taken
    return None


def can_be_had(rounds, rows, count):
    """Whether so many rows, or fewer, have one of each round."""
    return any(all(any(weights[row] for row in some) for weights in rounds)
               for few in range(count + 1) for some in itertools.combinations(range(rows), few))


def is_mended(book, value):
    """Whether a value is a right Mended."""
    if type(value) is not Mended or type(value.taken) is not tuple or type(value.rounds) is not tuple:
        return False
    if not all(type(row) is int and 0 <= row < len(book.rows) for row in value.taken):
        return False
    if list(value.taken) != sorted(set(value.taken)):
        return False
    if not isinstance(value.scale, Scale) or value.scale.things != book.things:
        return False
    if not book.without(*value.taken).keeps(value.scale):
        return False
    if not all(type(weights) is tuple and is_round(book, weights) for weights in value.rounds):
        return False
    return not value.taken or not can_be_had(value.rounds, len(book.rows), len(value.taken) - 1)


def clashing_books(many, seed, rows=7):
    """Books that are often impossible."""
    source = random.Random(seed)
    for _ in range(many):
        names = list("abc"[:source.randint(1, 3)])
        book = random_book(source, names, source.randint(0, rows), 1)
        if book.rows and source.random() < 0.4:
            book = book.with_rows(*source.choice(book.rows).contraries()[:1])
        yield Book(names, [Comparison(row.balance, source.choice(KINDS[:1] + KINDS)) for row in book.rows])


class Mends(Case):
    def check(self, book):
        paper = mended(book=book)
        self.assertIs(type(paper), Mended)
        self.assertIs(shows_mended(book, paper), True)
        self.assertEqual(mended(Book(book.things[::-1], list(book.rows))), paper)
        self.assertEqual(paper.taken, fewest(book))
        self.assertEqual(paper.scale.things, book.things)
        self.assertTrue(book.without(*paper.taken).keeps(paper.scale))
        self.assertTrue(all(is_round(book, weights) for weights in paper.rounds))
        if not paper.taken:
            self.assertEqual(paper.rounds, ())
            return paper
        count = len(paper.taken) - 1
        self.assertFalse(can_be_had(paper.rounds, len(book.rows), count))
        for at in range(len(paper.rounds)):
            self.assertTrue(can_be_had(paper.rounds[:at] + paper.rounds[at + 1:], len(book.rows), count))
        return paper

    def test_example(self):
        self.assertEqual(
            [mended(THREE).taken, mended(FREE).taken, mended(FREE).rounds,
             mended(Book.read("a b c | a > b , b > a , b > c , c >= b")).taken], [(0,), (), (), (0, 2)])
        other = Mended((1,), Scale.read("a 5 b 0 c 0 d 1"), ((1, 1, 1),))
        self.assertIs(shows_mended(book=THREE, value=other), True)
        self.assertEqual([shows_mended(THREE, Mended((1, 2), other.scale, other.rounds)),
                          shows_mended(FREE, Mended((), Scale.read("a 0 b 0 c 0"), ()))], [False, True])

    def test_papers(self):
        paper = Mended(rounds=[[1]], scale=SCALE, taken=[0])
        self.assertEqual((paper.word, bool(paper), paper.parts), ("mended", True, ((0,), SCALE, ((1,),))))
        self.assertEqual((paper.taken, paper.scale, paper.rounds), paper.parts)
        self.assertNotIsInstance(paper, Denial)

    def test_many(self):
        counts = {}
        for book in clashing_books(400, 431):
            found = fewest(book)
            if found is None:
                self.raises(TooMany, {"what": "taken", "most": 3}, mended, book)
            else:
                self.check(book)
            key = None if found is None else len(found)
            counts[key] = counts.get(key, 0) + 1
        self.assertGreater(min(counts.get(key, 0) for key in (0, 1, 2, 3)), 5, counts)

    def test_three_and_four(self):
        self.raises(TooMany, {"what": "taken", "most": 3}, mended, FOUR)
        self.assertEqual(self.check(FOUR.without(0)).taken, (1, 3, 5))
        self.assertEqual(self.check(FOUR.without(7)).taken, (0, 2, 4))
        same = Book.read("a b | a > b , b > a , b > a , b > a , b > a")
        self.assertEqual(self.check(same).taken, (0,))
        both = Book.read("a b | a > b , a > b , a > b , b > a , b > a , b > a")
        self.assertEqual(self.check(both).taken, (0, 1, 2))
        self.assertEqual(len(self.check(both).rounds), 3)
        more = both.with_rows(both.rows[0], both.rows[3])
        self.raises(TooMany, {"what": "taken", "most": 3}, mended, more)

    def test_rounds_that_overlap(self):
        # Each two rows clash: two of three are to be taken back, and no two rounds show it.
        ring = Book.read("a b | a > 2 b , b > a , a = 0 , b > 0 , 0 > b")
        self.check(ring)
        wheel = Book.read("a b c | a > b , b > c , c > a , b > a , c > b , a > c")
        self.check(wheel)

    def test_sixteen_rows(self):
        source = random.Random(432)
        for things, most in (("abcdef", 3), ("abc", 2), ("ab", 9999)):
            for _ in range(3):
                book = random_book(source, list(things), 16, most)
                start = time.perf_counter()
                try:
                    self.assertIs(shows_mended(book, mended(book)), True)
                except TooMany as error:
                    self.assertEqual((error.what, error.most), ("taken", 3))
                self.assertLess(time.perf_counter() - start, 10)

    def test_bent(self):
        counts, right = {}, 0
        for book in clashing_books(120, 433, 5):
            if fewest(book) is None or len(counts.setdefault(len(fewest(book)), [])) > 8:
                continue
            paper = mended(book)
            counts[len(paper.taken)].append(book)
            values = list(bent_papers(paper))
            for taken in (some for many in range(len(book) + 1) for some in itertools.combinations(range(len(book)), many)):
                values.append(Mended(taken, paper.scale, paper.rounds))
            for weights in paper.rounds:
                values.extend([Mended(paper.taken, paper.scale, (*paper.rounds, told)) for told in bent_all_through(weights)])
                values.append(Mended(paper.taken, paper.scale, (*paper.rounds, [weight * 3 for weight in weights])))
                values.append(Mended(paper.taken, paper.scale, paper.rounds[::-1]))
            values.append(Mended(paper.taken, paper.scale * Ratio(1, 7), paper.rounds))
            values.append(Mended(paper.taken, Scale({thing: 0 for thing in book.things}), paper.rounds))
            values.append(Mended(paper.taken, paper.scale.only(book.things[1:]), paper.rounds))
            for value in values:
                found = shows_mended(book, value)
                self.assertIs(found, is_mended(book, value))
                right += found
        self.assertGreater(min(len(told) for told in counts.values()), 2)
        self.assertGreater(len(counts), 3)
        self.assertGreater(right, 50)

    def test_others_of_equally_few(self):
        ends = {1: Scale.read("a 5 b 0 c 0 d 1"), 2: Scale.read("a 0 b 5 c 1 d 0"), 0: Scale.read("a 0 b 0 c 1 d 1")}
        for row, scale in ends.items():
            for rounds in (((1, 1, 1),), ((2, 2, 2),), ((1, 1, 1), (2, 2, 2))):
                self.assertIs(shows_mended(THREE, Mended((row,), scale, rounds)), True)
            self.assertIs(shows_mended(THREE, Mended((row,), scale, ())), False)
            self.assertIs(shows_mended(THREE, Mended((), scale, ((1, 1, 1),))), False)

    def test_more_than_three(self):
        scale = Scale.read("a 0 b 0 c 0 d 0")
        rounds = [[1 if row // 2 == at else 0 for row in range(8)] for at in range(4)]
        taken = Mended((0, 2, 4, 6), Scale({"a": -4, "b": -3, "c": -2, "d": -1}), rounds)
        self.assertIs(shows_mended(FOUR, taken), True)
        self.assertIs(shows_mended(FOUR, Mended(taken.taken, scale, rounds)), False)
        self.assertIs(shows_mended(FOUR, Mended(taken.taken, taken.scale, rounds[1:])), False)
        self.assertIs(shows_mended(FOUR, Mended((0, 1, 2, 4, 6), taken.scale, rounds)), False)
        self.assertIs(shows_mended(FOUR, Mended((6, 4, 2, 0), taken.scale, rounds)), False)
        balances = [Balance({"a": count, "b": -count - 1}) for count in range(1, 9)]
        book = Book(["a", "b"], [Comparison(told, ">") for balance in balances for told in (balance, -balance)])
        self.assertEqual(len(book), 16)
        pairs = [[1 if row // 2 == at else 0 for row in range(16)] for at in range(8)]
        start = time.perf_counter()
        value = Mended(tuple(range(0, 16, 2)), Scale({"a": -10 ** 4, "b": 1}), pairs)
        self.assertIs(shows_mended(book, value), True)
        self.assertIs(shows_mended(book, Mended(value.taken, value.scale, pairs[1:])), False)
        self.assertLess(time.perf_counter() - start, 5)

    def test_errors_and_odd_values(self):
        self.refuses(BadBook, "book", mended, [is_a(Book)])
        self.refuses(BadBook, "book", lambda value: shows_mended(value, None), [is_a(Book)])
        for value in ODD:
            self.assertIs(shows_mended(BOOK, value), False)
            self.assertIs(shows_mended(BOOK, Mended(value, value, value)), False)


if __name__ == "__main__":
    import unittest
    unittest.main()
