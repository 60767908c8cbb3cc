"""[15] and scaleborn/pins.py."""

import random
import time

from scaleborn.balances import Balance
from scaleborn.books import Book
from scaleborn.errors import BadBook, BadNumber, Impossible, NotAbove, NoThing, Twice
from scaleborn.fractions import fractions_to
from scaleborn.pins import copies_to_part, pinned, simplest_between
from scaleborn.ratios import Ratio
from scaleborn.ready_sorts import copies_of
from scaleborn.rounds import fit, is_possible
from scaleborn.scales import Scale
from scaleborn.spans import span
from support import BOOK, ODD, Case, is_a
from test_charts import IMPOSSIBLE
from test_rounds import random_book
from test_spans import DOUBLE, GROWN, is_above


def is_above_nothing(value):
    """Whether a value is a ratio above 0."""
    return type(value) in (int, Ratio) and Ratio.of(value).sign > 0


def simplest(low, high, most=60):
    """The ratio of the least bottom, and of these the least top, strictly between, by trying all."""
    for bottom in range(1, most):
        top = Ratio(low.top * bottom, low.bottom).below + 1
        if high is None or Ratio(top, bottom).is_below(high):
            return Ratio(top, bottom)
    return None


class Pins(Case):
    def test_example(self):
        self.assertEqual([pinned(GROWN, "a", "c", 1), pinned(GROWN, "a", "c", 3), pinned(DOUBLE, "b", "a", 2)],
                         [(1, None), (Ratio(3, 2), None), (None, Ratio(1, 2))])
        self.assertEqual(
            [simplest_between(Ratio(3, 2), 2), simplest_between(Ratio(1, 3), Ratio(1, 2)), simplest_between(0, None),
             copies_to_part(Ratio(3, 2), 2), copies_to_part(Ratio(7, 4), Ratio(5, 3))],
            [Ratio(5, 3), Ratio(2, 5), 1, 2, 5])

    def test_pinned(self):
        source, seen, counts = random.Random(401), 0, {}
        while seen < 200:
            book = random_book(source, ["a", "b", "c"], source.randint(1, 5), 3)
            if not is_possible(book) or not is_above(book, Balance.of("b")):
                continue
            seen += 1
            most = source.choice([1, 2, 3, 5, 60])
            paper = span(book, Balance.of("a"), Balance.of("b"))
            found = pinned(book=book, one="a", other="b", most=most)
            fractions = fractions_to(most)
            lows = [one for one in fractions if paper.lowest is not None and not paper.lowest.is_below(one)]
            highs = [one for one in fractions if paper.highest is not None and not one.is_below(paper.highest)]
            self.assertEqual(found, (lows[-1] if lows else None, highs[0] if highs else None))
            self.assertIs(type(found), tuple)
            for end in found:
                self.assertTrue(end is None or type(end) is Ratio)
            key = tuple(end is None for end in found)
            counts[key] = counts.get(key, 0) + 1
        self.assertGreater(min(counts.get((one, other), 0) for one in (True, False) for other in (True, False)), 5, counts)

    def test_pinned_by_copies(self):
        # What the copies of two things above nothing tell of a ratio is between which fractions it lies.
        for ratio in (Ratio(5, 4), Ratio(1, 7), Ratio(9, 2), Ratio(2, 3), Ratio(1)):
            for most in (1, 2, 3, 4):
                scale = Scale({"a": ratio, "b": 1})
                rows = [pair.as_rows(scale.outcome(pair)) for pair in copies_of("a", "b", most)]
                book = Book(["a", "b"], rows).above_nothing() if len(rows) < 15 else None
                if book:
                    found = pinned(book, "a", "b", most)
                    lows = [one for one in fractions_to(most) if not ratio.is_below(one)]
                    highs = [one for one in fractions_to(most) if not one.is_below(ratio)]
                    self.assertEqual(found, (lows[-1] if lows else None, highs[0] if highs else None))

    def test_errors_of_pinned(self):
        self.refuses(BadBook, "book", lambda value: pinned(value, None, None, None), [is_a(Book)])
        for value in ODD:
            if not (isinstance(value, str) and value == "a"):
                for told, call in ((value, lambda: pinned(IMPOSSIBLE, value, "z", 0)), (value, lambda: pinned(IMPOSSIBLE, "a", value, 0))):
                    with self.assertRaises(NoThing) as caught:
                        call()
                    self.assertIs(caught.exception.name, told)
        self.raises(NoThing, {"name": "z"}, pinned, IMPOSSIBLE, "z", "y", 0)
        self.raises(NoThing, {"name": "y"}, pinned, IMPOSSIBLE, "a", "y", 0)
        self.raises(NoThing, {"name": "y"}, pinned, BOOK, "y", "y", 61)
        self.refuses(BadNumber, "most", lambda value: pinned(IMPOSSIBLE, "a", "a", value),
                     [lambda value: type(value) is int and 1 <= value <= 60])
        self.raises(BadNumber, {"part": "most"}, pinned, IMPOSSIBLE, "a", "b", 61)
        self.raises(Twice, {"name": "b"}, pinned, IMPOSSIBLE, "b", "b", 60)
        self.raises(Impossible, {"paper": fit(IMPOSSIBLE)}, pinned, IMPOSSIBLE, "a", "b", 60)
        with self.assertRaises(NotAbove) as caught:
            pinned(BOOK, "b", "a", 4)
        self.assertTrue(BOOK.keeps(caught.exception.scale))
        self.assertLess(caught.exception.scale.worth(Balance.of("a")).sign, 1)
        # Of the one nothing is asked.
        self.assertEqual(pinned(Book.read("a b | b > 0 , 0 > a"), "a", "b", 4), (None, Ratio(1, 4)))

    def test_simplest_between(self):
        source = random.Random(402)
        ratios = sorted({(top * 60 // bottom, top, bottom) for top in range(0, 13) for bottom in (1, 2, 3, 4, 5, 6)})
        ratios = [Ratio(top, bottom) for _, top, bottom in ratios]
        for low in ratios:
            self.assertEqual(simplest_between(low=low, high=None), simplest(low, None))
            for high in source.sample(ratios, 25):
                if low.is_below(high):
                    found = simplest_between(low=low, high=high)
                    self.assertIs(type(found), Ratio)
                    self.assertEqual(found, simplest(low, high))
                    # Its top, too, is the least of all that lie between.
                    for top in range(1, found.top):
                        for bottom in range(1, 80):
                            self.assertFalse(low.is_below(Ratio(top, bottom)) and Ratio(top, bottom).is_below(high))
        self.assertEqual(simplest_between(3, 5), 4)
        self.assertEqual(simplest_between(0, 1), Ratio(1, 2))
        self.assertEqual(simplest_between(0, Ratio(1, 10 ** 29)), Ratio(1, 10 ** 29 + 1))
        self.assertEqual(simplest_between(0, Ratio(2, 7)), Ratio(1, 4))
        self.assertEqual(simplest_between(7, None), 8)
        self.assertEqual(simplest_between(Ratio(7, 2), 4), Ratio(11, 3))

    def test_great_ratios(self):
        source = random.Random(403)
        start = time.perf_counter()
        for digits in (30, 30, 30, 300):
            for _ in range(20):
                low, high = Ratio(source.randint(1, 10 ** digits), source.randint(1, 10 ** digits)), None
                high = low + Ratio(1, source.randint(1, 10 ** digits))
                found = simplest_between(low, high)
                self.assertTrue(low.is_below(found) and found.is_below(high))
                self.assertLessEqual(found.bottom, low.bottom + high.bottom)
                self.assertIsNotNone(copies_to_part(low, high))
        # Long chains of parts, and great ones.
        one, other = 1, 1
        for _ in range(1500):
            one, other = one + other, one
        low, high = Ratio(one, other), Ratio(one + other, one)
        low, high = (low, high) if low.is_below(high) else (high, low)
        self.assertEqual(simplest_between(low, high).top, one + one + other)
        self.assertEqual(simplest_between(10 ** 40, 10 ** 40 + 1), Ratio(2 * 10 ** 40 + 1, 2))
        self.assertLess(time.perf_counter() - start, 5)

    def test_copies_to_part(self):
        ratios = sorted({(Ratio(top, bottom).top, Ratio(top, bottom).bottom) for top in range(1, 9) for bottom in range(1, 9)})
        ratios = [Ratio(*told) for told in ratios]
        every = {most: fractions_to(most) for most in range(1, 9)}
        for one in ratios[::2]:
            for other in ratios:
                found = copies_to_part(one=one, other=other)
                if one == other:
                    self.assertIsNone(found)
                    continue
                low, high = (one, other) if one.is_below(other) else (other, one)
                needed = [most for most in every if any(
                    not told.is_below(low) and not high.is_below(told) for told in every[most])]
                self.assertEqual(found, needed[0])
                self.assertIs(type(found), int)
        self.assertIsNone(copies_to_part(Ratio(4, 2), 2))
        self.assertEqual(copies_to_part(1, 2), 1)
        self.assertEqual(copies_to_part(Ratio(10 ** 29, 10 ** 29 - 1), Ratio(10 ** 29 - 1, 10 ** 29 - 2)), 10 ** 29 - 1)

    def test_errors_of_numbers(self):
        def is_told(least):
            return lambda value: type(value) in (int, Ratio) and not Ratio.of(value).is_below(least)

        self.refuses(BadNumber, "low", lambda value: simplest_between(value, value), [is_told(0)])
        self.refuses(BadNumber, "high", lambda value: simplest_between(1, value), [is_told(2), lambda value: value is None])
        for low, high in ((1, 1), (2, 1), (Ratio(1, 2), Ratio(1, 3)), (0, 0), (0, -1), (Ratio(1, 2), Ratio(2, 4))):
            self.raises(BadNumber, {"part": "high"}, simplest_between, low, high)
        self.raises(BadNumber, {"part": "low"}, simplest_between, Ratio(-1, 9), 0)
        self.refuses(BadNumber, "one", lambda value: copies_to_part(value, None), [is_above_nothing])
        self.refuses(BadNumber, "other", lambda value: copies_to_part(1, value), [is_above_nothing])
        self.raises(BadNumber, {"part": "one"}, copies_to_part, 0, 0)
        self.raises(BadNumber, {"part": "other"}, copies_to_part, 1, Ratio(-1, 2))


if __name__ == "__main__":
    import unittest
    unittest.main()
