"""[2]: texts bent at each word, against oracles that know all short texts.

The right texts of a few things and small numbers are made by the classes themselves, so that the
beginnings of all of them are known. The texts that are bent have fewer things: for each of them
some greater thing is left that could stand behind.
"""

import itertools
import re
import unittest
from fractions import Fraction
from math import gcd

from scaleborn.balances import Balance
from scaleborn.books import Book
from scaleborn.comparisons import Comparison, Pair
from scaleborn.errors import BadText
from scaleborn.ratios import Ratio
from scaleborn.sayings import Saying
from scaleborn.scales import Scale
from scaleborn.sorts import Sort
from support import ODD, Case, bent

NAME = re.compile("[a-z][a-z0-9]{0,11}")


def beginnings(texts):
    found = {()}
    for text in texts:
        words = text.split(" ")
        found.update(tuple(words[:at]) for at in range(len(words) + 1))
    return found


class Oracle:
    """Where a text is refused, by all right texts and by those that lack nothing but a last word's leave."""

    def __init__(self, right, unfinished=()):
        self.right = set(right)
        self.begun = beginnings(self.right)
        self.unfinished = set(unfinished)

    def refused(self, words, stood=()):
        at = 0
        while at < len(words) and tuple(words[:at + 1]) in self.begun:
            at += 1
        text = " ".join(words[:at])
        if text in self.unfinished or text in stood:
            return at - 1
        return None if at == len(words) and text in self.right else at


def term(thing, number):
    return thing if number == 1 else f"{number} {thing}"


def sum_text(numbers):
    return " + ".join([term(thing, number) for thing, number in sorted(numbers.items())]) or "0"


def two_sums(kinds, turned):
    """All texts of two sums over a, b, c, d with numbers to 3, and e, and those with a common divisor."""
    right, unfinished = [], []
    for numbers in itertools.product(*[range(-3, 4)] * 4, (-1, 0, 1)):
        told = {thing: number for thing, number in zip("abcde", numbers) if number}
        if not told:
            continue
        first = {thing: number for thing, number in told.items() if number > 0}
        second = {thing: -number for thing, number in told.items() if number < 0}
        for kind in kinds:
            if kind not in turned or told[min(told)] > 0:
                text = f"{sum_text(first)} {kind} {sum_text(second)}"
                (right if gcd(*told.values()) == 1 else unfinished).append(text)
    return right, unfinished


BALANCES = Oracle([sum_text({thing: number for thing, number in zip("abcd", numbers) if number})
                   for numbers in itertools.product((0, 1, -1, 2, "1/2", "-3/2"), repeat=4)])
COMPARISONS = Oracle(*two_sums((">", ">=", "="), "="))
PAIRS = Oracle(*two_sums(":", ":"))


def sort_refused(words):
    if words == ["-"]:
        return None
    if words[0] == "-":
        return 1
    stood, begin = [], 0
    while True:
        end = words.index(",", begin) if "," in words[begin:] else len(words)
        wrong = PAIRS.refused(words[begin:end], stood)
        if wrong is not None:
            return begin + wrong
        stood.append(" ".join(words[begin:end]))
        if end == len(words) or len(stood) == 15:
            return None if end == len(words) else end
        begin = end + 1


def book_refused(words):
    things = []
    for at, word in enumerate([*words, ""]):
        if word == "|" and things:
            break
        if not NAME.fullmatch(word) or things and word <= things[-1] or len(things) == 6:
            return at
        things.append(word)
    begin, rows = at + 1, 0
    if words[begin:begin + 1] == ["-"]:
        return None if len(words) == begin + 1 else begin + 1
    while True:
        end = words.index(",", begin) if "," in words[begin:] else len(words)
        wrong = COMPARISONS.refused(words[begin:end])
        strange = [at for at, word in enumerate(words[begin:end]) if NAME.fullmatch(word) and word not in things]
        wrong = min([*strange[:1], *([] if wrong is None else [wrong])], default=None)
        if wrong is not None:
            return begin + wrong
        rows += 1
        if end == len(words) or rows == 16:
            return None if end == len(words) else end
        begin = end + 1


def is_ratio_text(word):
    if not re.fullmatch("-?[0-9]{1,60}(/[0-9]{1,60})?", word) or word.endswith("/0"):
        return False
    return str(Fraction(word)) == word


def scale_refused(words):
    if words[0] == "-":
        return None if len(words) == 1 else 1
    last = ""
    for at, word in enumerate(words):
        if at % 2 == 0:
            if not NAME.fullmatch(word) or word <= last:
                return at
            last = word
        elif not is_ratio_text(word):
            return at
    return len(words) if len(words) % 2 else None


class Wrong(Exception):
    pass


class Strange(Exception):
    """Names stand there that the oracle does not know."""


HEADS = ("not", "and", "or", "some")


def part_end(words, at, depth):
    """The index behind the part that begins here."""
    word = words[at] if at < len(words) else None
    if word not in ("[", "(") or depth == 60:
        raise Wrong(at)
    at += 1
    if word == "[":
        end = words.index("]", at) if "]" in words[at:] else len(words)
        if set(HEADS) & set(words[at:end]):
            raise Strange()
        wrong = COMPARISONS.refused(words[at:end])
        if wrong is not None or end == len(words):
            raise Wrong(at + wrong if wrong is not None else end)
        return end + 1
    head = words[at] if at < len(words) else None
    if head not in HEADS:
        raise Wrong(at)
    at += 1
    if head == "some":
        if at == len(words) or not re.fullmatch("0|[1-9][0-9]{0,59}", words[at]):
            raise Wrong(at)
        at += 1
    if head == "not":
        at = part_end(words, at, depth + 1)
    while head != "not" and at < len(words) and words[at] != ")":
        at = part_end(words, at, depth + 1)
    if at == len(words) or words[at] != ")":
        raise Wrong(at)
    return at + 1


def saying_refused(words):
    try:
        end = part_end(words, 0, 0)
    except Wrong as wrong:
        return wrong.args[0]
    return None if end == len(words) else end


class Bent(Case):
    def bend(self, read, refused, texts, more=()):
        done, wrong = set(), 0
        for right in texts:
            self.assertIsNone(refused(right.split(" ")), right)
            for text in [right, *bent(right, more)]:
                if text in done:
                    continue
                done.add(text)
                try:
                    told = refused(text.split(" "))
                except Strange:
                    continue
                if told is None:
                    self.assertEqual(str(read(text)), text)
                else:
                    wrong += 1
                    with self.assertRaises(BadText, msg=text) as caught:
                        read(text)
                    self.assertEqual((caught.exception.line, caught.exception.word), (0, told), text)
        self.assertGreater(wrong, 10)
        for value in ODD:
            if not isinstance(value, str):
                self.bad_text(read, value, 0)

    def test_balances(self):
        self.bend(Balance.read, BALANCES.refused,
                  ("0", "a", "b + c", "2 a + b", "-1 a + 1/2 b + -3/2 c", "a + 2 c"), ("2", "+", "a", "c"))

    def test_comparisons(self):
        texts = ("a > b", "a >= 0", "0 > b", "2 a = 3 b", "a + b > 2 c", "2 a >= 2 b + c", "b = c", "2 b > a + 2 c",
                 "0 >= 2 a + b", "3 a + 3 b = c", "a = 0", "2 a + b = 0")
        self.bend(Comparison.read, COMPARISONS.refused, texts, ("2", "+", "a", "b", "c", ">", ">=", "=", ":"))

    def test_pairs(self):
        texts = ("a : b", "a : 0", "2 a : 3 b", "a + b : 2 c", "2 a : 2 b + c", "2 a + 2 b : c", "2 b : c", "a + 3 b : 0", "2 a : b + 2 c")
        self.bend(Pair.read, PAIRS.refused, texts, ("2", "+", "a", "b", "c", ">", "=", ":"))

    def test_sorts(self):
        texts = ("-", "a : b", "a : b , a : c", "a : 0 , a + b : 0 , a : b", "2 a : b , 2 a : b + c , a : b + c",
                 "a : b , a : b + c , a : c")
        self.bend(Sort.read, sort_refused, texts, (",", "-", "+", "a", "b", "c", ":"))

    def test_scales(self):
        self.bend(Scale.read, scale_refused, ("-", "a 1", "a 3/2 b 0 c -1", "a 0 z9 -10/3"),
                  ("a", "b", "z", "1/2", "2/4", "-0", "+1", "3/1", "9" * 60, "9" * 61))

    def test_books(self):
        texts = ("a | -", "a b c | a > b , b >= c", "a b c | 2 a = 3 b", "b c | b > 0 , 0 > c , b = c",
                 "a b c | 2 a > b + 2 c , b > 0", "a | a > 0 , a > 0")
        self.bend(Book.read, book_refused, texts, (",", "-", "|", "+", "a", "b", "c", "d", ">", "=", "2"))

    def test_sayings(self):
        texts = ("( and )", "[ a > b ]", "( not [ b >= c ] )", "( and [ a > b ] ( not [ b >= c ] ) )",
                 "( some 2 [ a > b ] [ c > a ] [ a > b ] )", "( or ( some 0 ) [ 2 a = 3 b ] ( and ) )",
                 "( not ( not ( or [ 2 a > b + 2 c ] ) ) )")
        self.bend(Saying.read, saying_refused, texts,
                  ("[", "]", "(", ")", "and", "or", "not", "some", "2", "a", "b", "+", ">"))


class Edges(Case):
    """Where names come to an end, and where integers are long."""

    def test_sixty_digits(self):
        most, over = "9" * 60, "1" + "0" * 60
        for read, text, word in (
                (Balance.read, "{} a + b", 0), (Balance.read, "a + 1/{} b", 2), (Comparison.read, "{} a > b", 0),
                (Comparison.read, "a > {} b", 2), (Pair.read, "a : b + {} c", 4), (Sort.read, "a : {} b", 2),
                (Scale.read, "a -{}", 1), (Scale.read, "a 1 b 1/{}", 3), (Book.read, "a b | a > {} b", 5),
                (Saying.read, "[ {} a = b ]", 1), (Saying.read, "( some {} )", 2)):
            self.assertEqual(str(read(text.replace("{}", most))), text.replace("{}", most))
            self.bad_text(read, text.replace("{}", over), word)

    def test_the_greatest_names(self):
        last, ahead = "z" * 12, "z" * 11 + "y"
        for read, text, word in (
                (Balance.read, f"{last} + {last}", 1), (Balance.read, f"{last} +", 1), (Balance.read, f"{ahead} + 2", 3),
                (Comparison.read, f"{last} + a > 0", 1), (Comparison.read, f"{last} = a", 2),
                (Comparison.read, f"2 {last} = 0", 2), (Comparison.read, f"2 {last} > 0", 3),
                (Comparison.read, f"a > {last} + b", 3), (Comparison.read, f"{last} > {ahead} +", 3),
                (Comparison.read, f"2 a > 2 {last} + b", 4), (Comparison.read, f"2 a = 2 {ahead} + 2", 6),
                (Comparison.read, f"{last} = 2", 2), (Pair.read, f"2 {last} : a", 1), (Pair.read, f"2 {last}", 1),
                (Pair.read, f"2 {ahead} + 2", 3), (Pair.read, f"2 {ahead} : 2", 3), (Pair.read, f"{ahead} : 2", 3),
                (Pair.read, f"2 {ahead} + 3", 4), (Pair.read, f"2 {ahead} + 3 {last} : {last}", 6)):
            self.bad_text(read, text, word)
        for read, text in (
                (Comparison.read, f"{last} = 0"), (Comparison.read, f"2 {last} > {ahead}"), (Pair.read, f"{last} : 0"),
                (Comparison.read, f"a > {last}"), (Pair.read, f"2 {ahead} : {last}"), (Pair.read, f"2 {ahead} + 3 {last} : 0"),
                (Comparison.read, f"2 {last} > 3 a"), (Pair.read, f"{ahead} + 2 {last} : 0")):
            self.assertEqual(str(read(text)), text)

    def test_long_texts(self):
        names = [f"a{number:05d}" for number in range(9000)]
        text = " + ".join(names)
        self.assertEqual(str(Balance.read(text)), text)
        for kind, read in ((">", Comparison.read), ("=", Comparison.read), (":", Pair.read)):
            told = f"{' + '.join(names[:4000])} {kind} {' + '.join(names[4000:])}"
            self.assertEqual(str(read(told)), told)
            doubled = " + ".join([f"2 {name}" for name in names])
            self.bad_text(read, doubled, 3 * 9000 - 1)
        self.bad_text(Comparison.read, "0 > " + doubled, 3 * 9000)
        self.bad_text(Balance.read, " " * 99999, 0)
        self.bad_text(Comparison.read, "a > b" + " " * 9999, 3)


if __name__ == "__main__":
    unittest.main()
