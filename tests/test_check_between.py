"""[14] and scaleborn/check_between.py."""

import itertools

from scaleborn.balances import Balance
from scaleborn.between import Between, between
from scaleborn.books import Book
from scaleborn.chains import Chain, chain_of
from scaleborn.check_between import shows_between, shows_chain, shows_clash
from scaleborn.check_charts import shows_chart
from scaleborn.charts import Chart
from scaleborn.comparisons import Comparison
from scaleborn.errors import BadBook, BadSaying, NoThing, TooMany
from scaleborn.hands import Clash, Together, clash
from scaleborn.sayings import Saying, no, yes
from scaleborn.scales import Scale
from support import BOOK, ODD, SAYING, Case, bent_all_through, bent_charts, bent_papers, is_a
from test_between import HIGH, LOW, made_saying, some_cases
from test_charts import IMPOSSIBLE
from test_hands import AB, BC, CA, DE, are_uses, multiple, some_hands, summed, union, uses


def is_together(hands, value):
    return (type(value) is Together and isinstance(value.scale, Scale) and value.scale.things == union(*hands)
            and all(hand.keeps(value.scale.only(hand.things)) for hand in hands))


def is_clash(mine, its, value):
    """Whether a value is a right Clash of some rows and others."""
    if type(value) is not Clash or not isinstance(value.comparison, Comparison):
        return False
    if not are_uses(mine, value.first) or not are_uses(its, value.second):
        return False
    balance = value.comparison.balance
    if not multiple(summed(mine, value.first), balance) or not multiple(summed(its, value.second), -balance):
        return False
    return {">": uses(mine, value.first), ">=": uses(its, value.second), "=": False}[value.comparison.kind]


def is_shown_clash(one, other, value):
    return is_together([one, other], value) or is_clash(one.rows, other.rows, value)


def is_shown_chain(hands, value):
    """Whether a value is a right Chain or Together."""
    if type(value) is not Chain:
        return is_together(hands, value)
    weights, links = value.weights, value.links
    if type(weights) is not tuple or type(links) is not tuple or not 2 <= len(weights) <= len(hands):
        return False
    if not all(are_uses(hand.rows, some) for hand, some in zip(hands, weights)) or len(links) != len(weights) - 1:
        return False
    total, used = Balance({}), False
    for at, some in enumerate(weights):
        total = total + summed(hands[at].rows, some)
        used = used or uses(hands[at].rows, some)
        if at < len(links):
            if total.is_nothing and (used or links[at] is not None):
                return False
            if not total.is_nothing and not (
                    isinstance(links[at], Comparison) and links[at] == Comparison(total, ">" if used else ">=")):
                return False
    return total.is_nothing and used


def is_shown_between(one, saying, other, wanted, value):
    """Whether a value is a right Between or Together."""
    if type(value) is not Between:
        return is_together([one, other], value) and saying.holds(value.scale) and not wanted.holds(value.scale)
    if not shows_chart(one, saying.pairs, value.mine) or not shows_chart(other, wanted.pairs, value.its):
        return False
    kept = [told for told, held in zip(value.mine.lists, value.mine.truths(saying)) if held]
    broken = [told for told, held in zip(value.its.lists, value.its.truths(wanted)) if not held]
    wide = len(kept) if broken else 0
    if type(value.clashes) is not tuple or len(value.clashes) != wide:
        return False
    for told, some in zip(kept, value.clashes):
        if type(some) is not tuple or len(some) != len(broken):
            return False
        mine = [*one.rows, *[pair.as_rows(outcome) for pair, outcome in zip(saying.pairs, told)]]
        for wrong, paper in zip(broken, some):
            if not is_clash(mine, [*other.rows, *[pair.as_rows(outcome) for pair, outcome in zip(wanted.pairs, wrong)]], paper):
                return False
    return isinstance(value.saying, Saying) and value.saying == made_saying(value.mine, saying, value.its, wanted, value.clashes)


def times(weights, factor):
    return [weight * factor for weight in weights]


class CheckBetween(Case):
    def check(self, shows, is_right, arguments, values):
        """All values are told as they are; how many are right."""
        right = 0
        for value in values:
            found = shows(*arguments, value)
            self.assertIs(found, bool(is_right(*arguments, value)))
            right += found
        return right

    def test_example(self):
        one, two = Book.read("a b x y | a > x , x > b + y"), Book.read("b c x y | y > c , b + c > x")
        self.assertEqual([shows_clash(one=one, other=two, value=Clash(Comparison.read(text), [0, 1], [2, 2]))
                          for text in ("x > b + y", "x >= b + y", "b + y > x")], [True, True, False])
        self.assertIs(shows_chain(hands=[AB, BC, CA], value=Chain(
            [Comparison.read("a >= b"), Comparison.read("a >= c")], [[1], [1], [1]])), False)
        self.assertIs(shows_chain([AB, BC, CA], Chain(
            [Comparison.read("a >= b"), Comparison.read("a > c")], [[1], [1], [1]])), True)
        self.assertIs(shows_between(one=LOW, saying=no(), other=HIGH, wanted=no(), value=None), False)

    def test_clashes_bent(self):
        counts, right = {}, 0
        for one, other in some_hands(400, 2, 371):
            paper = clash(one, other)
            key = paper.comparison.kind if paper else "together"
            counts[key] = counts.get(key, 0) + 1
            if counts[key] > 8:
                continue
            self.check(shows_clash, is_shown_clash, (one, other), bent_papers(paper))
            self.check(shows_clash, is_shown_clash, (other, one), [paper])
            if paper:
                balance = paper.comparison.balance
                for kind, factor, its in itertools.product((">", ">=", "="), (1, -1), (1, 2, 3)):
                    values = [Clash(Comparison(balance * factor, kind), times(paper.first, its), paper.second),
                              Clash(Comparison(balance * factor, kind), paper.first, times(paper.second, its)),
                              Clash(Comparison(balance * factor, kind), paper.first, times(paper.second, -its))]
                    right += self.check(shows_clash, is_shown_clash, (one, other), values)
            else:
                things = paper.scale.things
                self.assertIs(shows_clash(one, other, Together(paper.scale.only(things[1:]))), False)
                further = Scale({**{thing: paper.scale.worth(Balance.of(thing)) for thing in things}, "z": 1})
                self.assertIs(shows_clash(one, other, Together(further)), False)
                self.assertIs(shows_clash(one, other, Together(paper.scale * 3)), True)
                self.check(shows_clash, is_shown_clash, (one, other), [Together(paper.scale * -1)])
        self.assertGreater(min(counts.values()), 7)
        self.assertGreater(right, 60)

    def test_kinds_of_clashes(self):
        # Rows > of both, of the one alone, of the other alone, of none.
        for mine, its, right in ((">", ">", [">", ">="]), (">", ">=", [">"]), (">=", ">", [">="]), (">=", ">=", []),
                                 ("=", ">", [">="]), (">", "=", [">"]), ("=", "=", [])):
            one, other = Book.read(f"a b | a {mine} b"), Book.read(f"a b | {'a' if its == '=' else 'b'} {its} {'b' if its == '=' else 'a'}")
            weight = -1 if its == "=" else 1
            shown = [kind for kind in (">", ">=", "=")
                     if shows_clash(one, other, Clash(Comparison.read(f"a {kind} b"), [2], [3 * weight]))]
            self.assertEqual(shown, right, (mine, its))
            self.assertIs(shows_clash(one, other, Clash(Comparison.read("a > b"), [0], [0])), False)

    def test_chains_bent(self):
        counts = {}
        for count, many, seed in ((2, 150, 372), (3, 150, 373), (4, 100, 374)):
            for hands in some_hands(many, count, seed, rows=2, kinds=(">", ">=")):
                paper = chain_of(hands)
                key = (count, len(paper.weights) if paper else 0)
                counts[key] = counts.get(key, 0) + 1
                if counts[key] > 4:
                    continue
                self.check(shows_chain, is_shown_chain, (hands,), bent_papers(paper, ODD[::3]))
                self.check(shows_chain, is_shown_chain, (hands[::-1],), [paper])
                if paper:
                    for factor in (2, 3, 0, -1):
                        self.check(shows_chain, is_shown_chain, (hands,),
                                   [Chain(paper.links, [times(some, factor) for some in paper.weights])])
                    for at, link in enumerate(paper.links):
                        for other in (None, Comparison.read("x > y"), *[Comparison(link.balance, kind) for kind in (">", ">=", "=") if link]):
                            links = [*paper.links[:at], other, *paper.links[at + 1:]]
                            self.check(shows_chain, is_shown_chain, (hands,), [Chain(links, paper.weights)])
        self.assertGreater(len(counts), 6)

    def test_chains_of_more_hands_than_it_takes(self):
        three = [AB, BC, CA]
        links = [Comparison.read("a >= b"), Comparison.read("a > c")]
        # A further hand behind, of which no row is used: the first three add up to nothing with a row >.
        self.assertIs(shows_chain([*three, DE], Chain(links, [[1], [1], [1]])), True)
        self.assertIs(shows_chain([*three, DE], Chain([*links, None], [[1], [1], [1], [0]])), False)
        # More hands than it takes, all of them used.
        wide = [AB, Book.read("a b | b > a"), BC, Book.read("b c | c > b")]
        self.assertEqual(len(chain_of(wide).weights), 2)
        long = Chain([Comparison.read(text) for text in ("a >= b", "a > b", "a > c")],
                     [[2], [1], [1], [1]])
        self.check(shows_chain, is_shown_chain, (wide,), [long])
        ring = [Book.read("a b | a > b"), Book.read("b c | b > c"), Book.read("a c | c > a"), Book.read("a c | c >= a")]
        for weights in ([[1], [1], [1]], [[2], [2], [1], [1]], [[1], [1], [0], [1]], [[1], [1], [1], [0]]):
            links = [Comparison.read("a > b"), Comparison.read("a > c"), Comparison.read("a > c")][:len(weights) - 1]
            right = weights != [[1], [1], [1], [0]]
            self.assertIs(shows_chain(ring, Chain(links, weights)), right, weights)
        # Nothing in the first hand's rows, which are used: no link.
        rim = [Book.read("a b | a >= b , b >= a"), Book.read("a c | a > c"), Book.read("a c | c >= a")]
        self.assertIs(shows_chain(rim, Chain([None, Comparison.read("a > c")], [[1, 1], [1], [1]])), True)
        self.assertIs(shows_chain(rim, Chain([None, Comparison.read("a >= c")], [[1, 1], [1], [1]])), False)
        self.assertIs(shows_chain(rim, Chain([Comparison.read("a >= c"), Comparison.read("a > c")], [[1, 1], [1], [1]])), False)

    def test_what_adds_up_to_nothing_and_shows_nothing(self):
        # One hand alone, no row > used, no row used at all, less than 0 times a row.
        self.assertIs(shows_chain([IMPOSSIBLE, BOOK], Chain([], [[1, 1]])), False)
        self.assertIs(shows_chain([IMPOSSIBLE, BOOK], Chain([], [])), False)
        even = [AB, Book.read("a b | b >= a")]
        self.assertIs(shows_chain(even, Chain([Comparison.read("a >= b")], [[1], [1]])), False)
        self.assertIs(shows_chain(even, Chain([None], [[0], [0]])), False)
        for kind in (">", ">="):
            one, other = Book.read(f"a b | a > b , a {kind} b"), Book.read("a b | b > a")
            for weights, right in (([1, 0], True), ([2, -1], False), ([-1, 2], False), ([0, 1], kind == ">")):
                self.assertIs(shows_clash(one, other, Clash(Comparison.read("a > b"), weights, [1])), right)
                self.assertIs(shows_chain([one, other], Chain([Comparison.read("a > b")], [weights, [1]])), right)
        tied = Book.read("a b | a = b , a > b")
        self.assertIs(shows_clash(tied, Book.read("a b | b >= a"), Clash(Comparison.read("a > b"), [-1, 2], [1])), True)

    def test_impossible_hands_and_beyond_bounds(self):
        own = Clash(Comparison.read("a > b"), [2, 1], [1])
        self.assertIs(shows_clash(IMPOSSIBLE, Book.read("a b | b >= a"), own), True)
        self.assertIs(shows_clash(IMPOSSIBLE, BOOK, Together(Scale({"a": 1, "b": 0}))), False)
        chain = Chain([Comparison.read("a > b")], [[1, 0], [1]])
        self.assertIs(shows_chain([IMPOSSIBLE, Book.read("a b | b >= a")], chain), True)
        self.assertIs(shows_chain([IMPOSSIBLE, BOOK], Chain([None], [[1, 1], [0]])), False)
        self.assertIs(shows_chain([BOOK, IMPOSSIBLE], Chain([None], [[0], [1, 1]])), True)
        self.assertIs(shows_chain([IMPOSSIBLE] * 2, Together(Scale({"a": 1, "b": 0}))), False)
        seven, eight = Book(list("abcdef")), Book.read("g h | g > h")
        worths = {thing: 0 for thing in "abcdefh"}
        for one, other in ((seven, eight), (eight, seven)):
            self.raises(TooMany, {"what": "things", "most": 6}, clash, one, other)
            self.assertIs(shows_clash(one, other, Together(Scale({**worths, "g": 1}))), True)
            self.assertIs(shows_clash(one, other, Together(Scale({**worths, "g": 0}))), False)
            self.assertIs(shows_chain([one] * 3 + [other] * 3, Together(Scale({**worths, "g": 1}))), True)
        six = [AB, BC, DE, DE, DE, CA]
        links = [Comparison.read(text) for text in ("a >= b", "a > c", "a > c", "a > c", "a > c")]
        self.assertIs(shows_chain(six, Chain(links, [[1], [1], [0], [0], [0], [1]])), True)
        self.assertIs(shows_between(IMPOSSIBLE, SAYING, BOOK, no(), Together(Scale({"a": 1, "b": 0}))), False)
        empty = Chart((), (), (), ("barred", (1, 1)))
        self.assertIs(shows_between(IMPOSSIBLE, yes(), BOOK, no(), Between(no(), empty, empty, ())), False)
        wide = Together(Scale({**worths, "g": 1}))
        self.assertIs(shows_between(seven, yes(), eight, no(), wide), True)
        self.assertIs(shows_between(seven, Saying.read("[ a > b ]"), eight, no(), wide), False)
        self.assertIs(shows_between(seven, yes(), eight, Saying.read("[ g > h ]"), wide), False)

    def test_more_lists_than_may_be(self):
        saying = Saying.read("( some 0 [ a > 2 x ] [ a > 3 x ] [ a > 4 x ] [ a > 5 x ] )")
        one, other = Book.read("a x | x > 0 , a > x"), Book.read("b x | b = 0 , x > 0")
        wanted = Saying.read("[ x > b ]")
        self.assertEqual(len(between(one, ~saying, other, wanted).mine), 9)
        self.raises(TooMany, {"what": "lists", "most": 8}, between, one, saying, other, wanted)
        some = between(one, yes(), other, wanted)
        charts = between(one, ~saying, other, wanted)
        self.assertIs(shows_between(one, saying, other, wanted, Between(yes(), charts.mine, some.its, ())), True)

    def test_betweens_bent(self):
        counts, right = {}, 0
        for one, saying, other, wanted in some_cases(160, 375):
            try:
                paper = between(one, saying, other, wanted)
            except TooMany:
                continue
            key = len(paper.clashes) > 0 if paper else "together"
            counts[key] = counts.get(key, 0) + 1
            if counts[key] > 7:
                continue
            arguments = (one, saying, other, wanted)
            self.check(shows_between, is_shown_between, arguments, bent_papers(paper, ODD[::2]))
            if paper:
                charts = [Between(paper.saying, chart, paper.its, paper.clashes) for chart in bent_charts(one, paper.mine)]
                charts.extend([Between(paper.saying, paper.mine, chart, paper.clashes) for chart in bent_charts(other, paper.its)])
                sayings = (no(), yes(), ~paper.saying, paper.saying & paper.saying, saying)
                values = [*charts, *[Between(told, *paper.parts[1:]) for told in sayings]]
                right += self.check(shows_between, is_shown_between, arguments, values)
                self.check(shows_between, is_shown_between, arguments, self.bent_clashes(paper))
            self.check(shows_between, is_shown_between, (one, ~saying, other, wanted), [paper])
            self.check(shows_between, is_shown_between, (one, saying, other, ~wanted), [paper])
            self.check(shows_between, is_shown_between, (one, wanted, other, saying) if one.things == other.things else arguments, [paper])
        self.assertGreater(min(counts.values()), 5)

    def bent_clashes(self, paper):
        """The paper with one clash bent, and the saying that belongs to that, or not."""
        for at, some in enumerate(paper.clashes[:2]):
            for to, told in enumerate(some[:2]):
                kinds = [Clash(Comparison(told.comparison.balance, kind), told.first, told.second) for kind in (">", ">=")]
                weights = [Clash(told.comparison, first, told.second) for first in bent_all_through(told.first)]
                weights.append(Clash(told.comparison, times(told.first, 2), told.second))
                for bend in (*kinds, *weights, None, 1, told.comparison):
                    clashes = [*paper.clashes[:at], (*some[:to], bend, *some[to + 1:]), *paper.clashes[at + 1:]]
                    yield Between(paper.saying, paper.mine, paper.its, clashes)
                    if type(bend) is Clash:
                        made = made_saying(paper.mine, KEPT, paper.its, no(), clashes)
                        yield Between(made, paper.mine, paper.its, clashes)

    def test_odd_values(self):
        for value in ODD:
            self.assertIs(shows_clash(AB, BC, value), False)
            self.assertIs(shows_chain([AB, BC], value), False)
            self.assertIs(shows_between(AB, no(), BC, no(), value), False)
            for made in (Together, lambda part: Clash(part, part, part), lambda part: Chain(part, part),
                         lambda part: Between(part, part, part, part)):
                self.assertIs(shows_clash(AB, BC, made(value)), False)
                self.assertIs(shows_chain([AB, BC], made(value)), False)
                self.assertIs(shows_between(AB, no(), BC, no(), made(value)), False)

    def test_errors(self):
        far = Saying.read("( and [ d > a ] [ a + c > b ] )")
        self.refuses(BadBook, "one", lambda value: shows_between(value, None, None, None, None), [is_a(Book)])
        self.refuses(BadSaying, "saying", lambda value: shows_between(IMPOSSIBLE, value, None, None, None), [is_a(Saying)])
        self.refuses(BadBook, "other", lambda value: shows_between(IMPOSSIBLE, far, value, None, None), [is_a(Book)])
        self.refuses(BadSaying, "wanted", lambda value: shows_between(IMPOSSIBLE, far, BOOK, value, None), [is_a(Saying)])
        self.raises(NoThing, {"name": "c"}, shows_between, IMPOSSIBLE, far, BOOK, far, None)
        self.raises(NoThing, {"name": "c"}, shows_between, IMPOSSIBLE, SAYING, BOOK, far, None)


# A saying that holds at each list of whatever chart, so that all clashes come to be said.
KEPT = yes()


if __name__ == "__main__":
    import unittest
    unittest.main()
