"""[3], scaleborn/papers.py."""

import unittest

from scaleborn.papers import Denial, Paper, fixed
from scaleborn.ratios import Ratio
from scaleborn.rounds import Fits, Round
from support import ODD, SCALE, Case, Stubborn


class Papers(Case):
    def test_example(self):
        self.assertEqual(
            [fixed([1, {"b": [2], "a": None}]), bool(Paper("note", [1])), bool(Denial("note")),
             Paper("note", [1]) == Paper("note", (1,)), Paper("note", 1) == Denial("note", 1)],
            [(1, (("a", None), ("b", (2,)))), True, False, True, False])

    def test_fixed(self):
        for told, kept in (
                ([], ()), ((), ()), ({}, ()), (5, 5), (None, None), ("ab", "ab"), ([[], [()]], ((), ((),))),
                ({2: [1], -1: {"z": 0, "b": [3]}}, ((-1, (("b", (3,)), ("z", 0))), (2, (1,)))),
                ((1, [2, (3, [4])]), (1, (2, (3, (4,)))))):
            self.assertEqual(fixed(told), kept)
            self.assertEqual(repr(fixed(told)), repr(kept))
        one = {"b": 1, "a": 2, "c": 3}
        other = {"c": 3, "a": 2, "b": 1}
        self.assertEqual(repr(fixed(one)), repr(fixed(other)))
        deep = kept = 7
        for _ in range(60):
            deep, kept = [deep], (kept,)
        self.assertEqual(fixed(deep), kept)
        strange = Stubborn()
        self.assertIs(fixed(strange), strange)
        self.assertIs(fixed([strange])[0], strange)
        self.assertEqual(repr(fixed([True, 1, Ratio(1)])), "(True, 1, 1)")

    def test_nothing_that_is_passed_changes(self):
        told = [1, [2, {"b": [3], "a": 4}]]
        paper = Paper("note", told, {"x": told})
        kept = paper.parts
        self.assertEqual(told, [1, [2, {"b": [3], "a": 4}]])
        told[1][1]["b"].append(5)
        told.append(6)
        self.assertEqual(paper.parts, kept)
        self.assertEqual(repr(paper.parts),
                         "((1, (2, (('a', 4), ('b', (3,))))), (('x', (1, (2, (('a', 4), ('b', (3,)))))),))")

    def test_parts(self):
        paper = Paper("note", 1, [2], (3, [4]))
        self.assertEqual((paper.word, paper.parts), ("note", (1, (2,), (3, (4,)))))
        self.assertEqual(Paper("note").parts, ())
        denial = Denial("word", [1])
        self.assertEqual((denial.word, denial.parts), ("word", ((1,),)))
        self.assertIsInstance(denial, Paper)
        self.assertEqual(Paper(word="note"), Paper("note"))

    def test_truth(self):
        self.assertIs(bool(Paper("note", False)), True)
        self.assertIs(bool(Denial("note", True)), False)
        self.assertIs(bool(Fits(SCALE)), True)
        self.assertIs(bool(Round([1])), False)

    def test_equality(self):
        self.assertEqual(Paper("a", [1, [2]]), Paper("a", (1, (2,))))
        self.assertEqual(Paper("a", {"x": 1}), Paper("a", [("x", 1)]))
        self.assertEqual(Denial("a", 1), Denial("a", 1))
        for one, other in ((Paper("a", 1), Paper("b", 1)), (Paper("a", 1), Paper("a", 2)), (Paper("a", 1), Paper("a")),
                           (Paper("a", 1), Denial("a", 1)), (Denial("a", 1), Paper("a", 1)),
                           (Round([1]), Denial("round", [1])), (Denial("round", [1]), Round([1])),
                           (Round([1]), Round([2])), (Fits(1), Round(1))):
            self.assertIs(one == other, False)
            self.assertIs(one != other, True)
        for value in ODD:
            if "Stubborn" not in repr(value) and not isinstance(value, Paper):
                self.assertIs(Paper("note") == value, False)
                self.assertIs(Denial("note") == value, False)

    def test_papers_of_any_parts(self):
        for value in ODD:
            self.assertEqual((Round(value).word, Fits(value).word), ("round", "fits"))
            self.assertEqual(repr(Round(weights=value).weights), repr(fixed(value)))
            self.assertEqual(repr(Fits(scale=value).parts), repr((fixed(value),)))


if __name__ == "__main__":
    unittest.main()
