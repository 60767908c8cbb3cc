"""Checks of hands, of hands in a row, and of what stands between, by adding up and by putting scales in."""

from scaleborn.between import Between, lists_of, need_between, rows_with, saying_between
from scaleborn.chains import Chain, links_of, need_hands, rows_of
from scaleborn.check_charts import shows_chart
from scaleborn.checks import is_integer
from scaleborn.comparisons import Comparison
from scaleborn.hands import Clash, Together, need_two_books, row_sum, things_of, uses_more
from scaleborn.sayings import Saying
from scaleborn.scales import Scale


def shows_clash(one, other, value):
    """Whether any value tells rightly whether two hands clash."""
    need_two_books(one, other)
    return _is_together([one, other], value) or _is_clash(one.rows, other.rows, value)


def shows_chain(hands, value):
    """Whether any value tells rightly whether hands in a row clash."""
    need_hands(hands)
    return _is_together(hands, value) or type(value) is Chain and _is_chain(hands, value.links, value.weights)


def shows_between(one, saying, other, wanted, value):
    """Whether any value tells rightly whether something stands between two sayings of two hands."""
    need_between(one, saying, other, wanted)
    if _is_together([one, other], value):
        return saying.holds(value.scale) and not wanted.holds(value.scale)
    if type(value) is not Between or not isinstance(value.saying, Saying):
        return False
    if not shows_chart(one, saying.pairs, value.mine) or not shows_chart(other, wanted.pairs, value.its):
        return False
    kept, broken = lists_of(value.mine, saying, True), lists_of(value.its, wanted, False)
    first = [rows_with(one, value.mine, told) for told in kept if len(broken) > 0]
    second = [rows_with(other, value.its, wrong) for wrong in broken]
    if not isinstance(value.clashes, tuple) or len(value.clashes) != len(first):
        return False
    if not all([_are_clashes(mine, second, some) for mine, some in zip(first, value.clashes)]):
        return False
    return value.saying == saying_between(kept, broken, value.clashes)


def _is_together(hands, value):
    """Whether any value is a Together with a scale of all things that keeps all hands."""
    if type(value) is not Together or not isinstance(value.scale, Scale):
        return False
    return value.scale.things == things_of(hands) and all([hand.keeps(value.scale) for hand in hands])


def _are_clashes(mine, second, value):
    """Whether any value is a tuple of clashes of rows of one hand with each of several rows of another one."""
    if not isinstance(value, tuple) or len(value) != len(second):
        return False
    return all([_is_clash(mine, its, paper) for its, paper in zip(second, value)])


def _is_clash(mine, its, value):
    """Whether any value is a right Clash of rows of one hand and rows of another one."""
    if type(value) is not Clash or not isinstance(value.comparison, Comparison):
        return False
    if not _are_uses(mine, value.first) or not _are_uses(its, value.second):
        return False
    balance, kind = value.comparison.balance, value.comparison.kind
    if row_sum(mine, value.first).least() != balance or row_sum(its, value.second).least() != -balance:
        return False
    return kind == ">" and uses_more(mine, value.first) or kind == ">=" and uses_more(its, value.second)


def _is_chain(hands, links, weights):
    """Whether any values are the links and the weights of some first hands that clash."""
    if not isinstance(weights, tuple) or not 2 <= len(weights) <= len(hands):
        return False
    if not all([_are_uses(hand.rows, some) for hand, some in zip(hands, weights)]):
        return False
    rows, used = rows_of(hands[:len(weights)]), [weight for some in weights for weight in some]
    if not row_sum(rows, used).is_nothing or not uses_more(rows, used):
        return False
    right = links_of(hands, weights)
    if not isinstance(links, tuple) or len(links) != len(right):
        return False
    if not all([_is_link(link, its) for link, its in zip(links, right)]):
        return False
    # Where the first hands add up to nothing, no row > of theirs is used: else they clash by themselves.
    ahead = [uses_more(hand.rows, some) for hand, some in zip(hands, weights)]
    return not any([link is None and any(ahead[:at + 1]) for at, link in enumerate(right)])


def _is_link(value, right):
    """Whether any value is this comparison, or None where there is none."""
    if right is None:
        return value is None
    return isinstance(value, Comparison) and value == right


def _are_uses(rows, value):
    """Whether any value tells how often each of the rows is used."""
    if not isinstance(value, tuple) or len(value) != len(rows) or not all([is_integer(weight) for weight in value]):
        return False
    return all([weight >= 0 or row.kind == "=" for row, weight in zip(rows, value)])
