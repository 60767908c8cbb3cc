"""[9] and scaleborn/struck.py."""

import random

from scaleborn.books import Book
from scaleborn.comparisons import Comparison
from scaleborn.errors import BadBook, BadNumber, BadSaying, Impossible, NoThing, TooMany
from scaleborn.rounds import fit
from scaleborn.sayings import Saying, both_of, no, of_comparison, yes
from scaleborn.struck import put_to, struck, worked_out
from scaleborn.verdicts import are_same, truth_in
from support import ODD, SAYING, Case, is_a
from test_charts import IMPOSSIBLE, all_lists
from test_verdicts import sayings

FREE = Book(["a", "b", "c"])
WORDY = Saying.read("( or ( and [ a > c ] [ b > c ] ) [ a + b > 2 c ] )")


def unfolded(saying):
    """The saying as nested tuples, each part written wherever it is needed."""
    found = []
    for part in saying.parts:
        if part[0] == "holds":
            found.append(("holds", str(part[1])))
        else:
            head = part[:2] if part[0] == "some" else part[:1]
            found.append((*head, *[found[number] for number in part[len(head):]]))
    return found[-1]


def folded(tree):
    """The saying of nested tuples."""
    parts = []

    def put(tree):
        if tree[0] == "holds":
            parts.append(("holds", Comparison.read(tree[1])))
        else:
            head = tree[:2] if tree[0] == "some" else tree[:1]
            numbers = [put(further) for further in tree[len(head):]]
            parts.append((*head, *numbers))
        return len(parts) - 1

    put(tree)
    return Saying(parts)


def work(tree):
    """A tree worked out, rule by rule, as [9] tells it."""
    word = tree[0]
    if word == "holds":
        return tree
    if word == "not":
        inner = work(tree[1])
        if inner == ("and",):
            return ("or",)
        if inner == ("or",):
            return ("and",)
        return inner[1] if inner[0] == "not" else ("not", inner)
    if word == "some":
        inner = [work(further) for further in tree[2:]]
        number = tree[1] - inner.count(("and",))
        inner = [one for one in inner if one not in (("and",), ("or",))]
        if number <= 0:
            return ("and",)
        if number > len(inner):
            return ("or",)
        return inner[0] if len(inner) == 1 else ("some", number, *inner)
    weak, strong = (("and",), ("or",)) if word == "and" else (("or",), ("and",))
    inner = list(dict.fromkeys(one for one in [work(further) for further in tree[1:]] if one != weak))
    if strong in inner:
        return strong
    return inner[0] if len(inner) == 1 else (word, *inner)


def put_in(tree, part, other):
    """The tree with another one wherever the part stands."""
    if tree == part:
        return other
    if tree[0] == "holds":
        return tree
    start = 2 if tree[0] == "some" else 1
    return (*tree[:start], *[put_in(further, part, other) for further in tree[start:]])


def parts_of(saying):
    """The parts of a saying as nested tuples."""
    return [unfolded(Saying(list(saying.parts[:at + 1]))) for at in range(len(saying.parts))]


def truths(saying, told):
    return [saying.truth_by(outcomes) for outcomes in told]


def strike(book, saying):
    """Striking, done as [9] tells it."""
    texts = [str(pair) for pair in saying.pairs]
    told = [dict(zip(texts, outcomes)) for outcomes in all_lists(book, saying.pairs)]
    wanted = truths(saying, told)
    left = folded(work(unfolded(saying)))
    while True:
        for part in reversed(parts_of(left)):
            if part in (("and",), ("or",)):
                continue
            choices = [folded(work(put_in(unfolded(left), part, other))) for other in (("and",), ("or",))]
            same = [choice for choice in choices if truths(choice, told) == wanted]
            if same:
                left = same[0]
                break
        else:
            return left


class Working(Case):
    def test_example(self):
        jury = Book.read("a b c d | a + b > 2 c , c > d , a > 0")
        mean = Saying.read("[ a + b > 2 d ]")
        self.assertEqual(
            [str(struck(FREE, WORDY)), str(put_to(WORDY, 0, True)), str(struck(jury, ~mean)), str(struck(jury, WORDY))],
            ["[ a + b > 2 c ]", "( or [ b > c ] [ a + b > 2 c ] )", "( or )", "( and )"])
        self.assertEqual(
            [str(worked_out(Saying.read(text))) for text in (
                "( some 2 ( and ) [ a > b ] ( or ) ( not ( not [ a > c ] ) ) )",
                "( and [ a > b ] ( not ( not [ a > b ] ) ) )")],
            ["( some 1 [ a > b ] [ a > c ] )", "[ a > b ]"])

    def test_rules(self):
        one, two, three = "[ a > b ]", "[ a > c ]", "[ b = c ]"
        for text, told in (
                (one, one), ("( not ( and ) )", "( or )"), ("( not ( or ) )", "( and )"), (f"( not {one} )", f"( not {one} )"),
                (f"( not ( not {one} ) )", one), (f"( not ( not ( not {one} ) ) )", f"( not {one} )"),
                (f"( not ( not ( not ( not {one} ) ) ) )", one), (f"( and {one} ( and ) {two} )", f"( and {one} {two} )"),
                (f"( and {two} {one} {two} )", f"( and {two} {one} )"), (f"( and {one} ( or ) {two} )", "( or )"),
                (f"( and {one} {one} )", one), ("( and ( and ) ( and ) )", "( and )"), (f"( or {one} )", one),
                (f"( or {one} ( or ) {two} )", f"( or {one} {two} )"), (f"( or {two} {one} {two} {one} )", f"( or {two} {one} )"),
                (f"( or {one} ( and ) )", "( and )"), ("( or ( or ) )", "( or )"), ("( or ( not ( and ) ) )", "( or )"),
                (f"( some 0 {one} {two} )", "( and )"), (f"( some 1 ( and ) {two} )", "( and )"), ("( some 0 )", "( and )"),
                ("( some 1 )", "( or )"), (f"( some 3 {one} {two} )", "( or )"), (f"( some 2 {one} ( or ) )", "( or )"),
                (f"( some 2 {one} ( and ) )", one), (f"( some 1 {one} )", one), (f"( some 1 {one} {one} )", f"( some 1 {one} {one} )"),
                (f"( some 2 {one} {one} )", f"( some 2 {one} {one} )"), (f"( some 2 {one} {one} {two} ( and ) ( or ) )", f"( some 1 {one} {one} {two} )"),
                (f"( and ( or {one} {two} ) ( or {one} {two} {one} ) {three} )", f"( and ( or {one} {two} ) {three} )"),
                (f"( and ( or {one} {two} ) ( or {two} {one} ) )", f"( and ( or {one} {two} ) ( or {two} {one} ) )"),
                (f"( and ( and {one} {two} ) {one} )", f"( and ( and {one} {two} ) {one} )"),
                (f"( not ( and ( not {one} ) ) )", one), (f"( not ( some 1 ( not {one} ) ) )", one),
                (f"( or ( not {one} ) {one} )", f"( or ( not {one} ) {one} )"), ("( and )", "( and )"), ("( or )", "( or )")):
            self.assertEqual(str(worked_out(saying=Saying.read(text))), told, text)

    def test_worked_out(self):
        for book, pairs, saying in sayings(300, 111):
            left = worked_out(saying)
            self.assertEqual(left, folded(work(unfolded(saying))))
            self.assertEqual(worked_out(left), left)
            self.assertLessEqual(len(left), len(saying))
            if left not in (yes(), no()):
                self.assertFalse([part for part in left.parts if part in (("and",), ("or",))])

    def test_put_to(self):
        puts = 0
        for book, pairs, saying in sayings(120, 112):
            for number, part in enumerate(parts_of(saying)):
                for truth, other in ((True, ("and",)), (False, ("or",))):
                    told = folded(work(put_in(unfolded(saying), part, other)))
                    self.assertEqual(put_to(saying=saying, number=number, truth=truth), told)
                    puts += 1
        self.assertGreater(puts, 500)
        self.assertEqual((put_to(SAYING, 0, True), put_to(SAYING, 0, False)), (yes(), no()))
        self.assertEqual(str(put_to(WORDY, 3, True)), "( and )")
        self.assertEqual(str(put_to(WORDY, 2, False)), "[ a + b > 2 c ]")

    def test_errors(self):
        self.refuses(BadSaying, "saying", worked_out, [is_a(Saying)])
        self.refuses(BadSaying, "saying", lambda value: put_to(value, None, None), [is_a(Saying)])
        self.refuses(BadNumber, "number", lambda value: put_to(SAYING, value, None), [
            lambda value: type(value) is int and value == 0])
        self.refuses(BadNumber, "truth", lambda value: put_to(SAYING, 0, value), [lambda value: type(value) is bool])
        for number in (-1, 1, True, False):
            self.raises(BadNumber, {"part": "number"}, put_to, SAYING, number, True)


class Striking(Case):
    def test_against_hand(self):
        counts = {True: 0, False: 0, None: 0}
        for book, pairs, saying in sayings(260, 113, pairs=3):
            left = struck(book=book, saying=saying)
            self.assertEqual(left, strike(book, saying), (str(book), str(saying)))
            self.assertTrue(are_same(book, saying, left))
            self.assertEqual(struck(book, left), left)
            self.assertLessEqual(len(left), len(saying))
            self.assertLessEqual({str(pair) for pair in left.pairs}, {str(pair) for pair in saying.pairs})
            word = truth_in(book, saying)
            counts[word] += 1
            if word is not None:
                self.assertEqual(left, yes() if word else no())
            for number, part in enumerate(left.parts):
                if part not in (("and",), ("or",)):
                    for truth in (True, False):
                        self.assertFalse(are_same(book, left, put_to(left, number, truth)))
        self.assertGreater(min(counts.values()), 20)

    def test_yes_first(self):
        # Each of both can be put to yes in the and of equal ones; the last part is asked first.
        book = Book.read("a b | a = b")
        told = Saying.read("( and [ a > 0 ] [ b > 0 ] )")
        self.assertEqual(str(struck(book, told)), "[ a > 0 ]")
        self.assertEqual(str(struck(book, Saying.read("( or [ a > 0 ] [ b > 0 ] )"))), "[ a > 0 ]")
        self.assertEqual(struck(FREE, yes()), yes())
        self.assertEqual(struck(FREE, no() & yes()), no())

    def test_errors(self):
        self.refuses(BadBook, "book", lambda value: struck(value, None), [is_a(Book)])
        self.refuses(BadSaying, "saying", lambda value: struck(IMPOSSIBLE, value), [is_a(Saying)])
        self.raises(NoThing, {"name": "c"}, struck, IMPOSSIBLE, Saying.read("( and [ d > a ] [ a + c > b ] )"))
        self.raises(Impossible, {"paper": fit(IMPOSSIBLE)}, struck, IMPOSSIBLE, SAYING)
        many = both_of([of_comparison(Comparison.read(f"a > {count} b")) for count in range(2, 23)])
        self.raises(TooMany, {"what": "pairs", "most": 20}, struck, FREE, many)
        # Also where no pair would be left.
        self.raises(TooMany, {"what": "pairs", "most": 20}, struck, FREE, many & no())
        for value in ODD[:3]:
            self.raises(BadSaying, {"part": "saying"}, struck, FREE, value)

    def test_many_parts(self):
        source = random.Random(114)
        book = Book.read("a b c d | a > b , c > d")
        texts = ["[ a > b ]", "[ a > c ]", "[ b >= d ]", "[ a + b > c + d ]", "[ a = c ]", "[ d > 0 ]", "[ a > 0 ]"]
        parts = list(("holds", Comparison.read(text[2:-2])) for text in texts)
        while len(parts) < 70:
            numbers = [source.randrange(max(0, len(parts) - 12), len(parts)) for _ in range(3)]
            parts.append(source.choice([("not", numbers[0]), ("and", *numbers), ("or", *numbers), ("some", 2, *numbers)]))
        saying = Saying(parts)
        left = struck(book, saying)
        self.assertTrue(are_same(book, left, saying))


if __name__ == "__main__":
    import unittest
    unittest.main()
