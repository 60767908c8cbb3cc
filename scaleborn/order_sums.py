"""Class sums: what an order alone makes sure of."""

from scaleborn.balances import Balance
from scaleborn.checks import need_things
from scaleborn.comparisons import Comparison
from scaleborn.errors import BadBalance, BadComparison
from scaleborn.orders import need_order, places_in
from scaleborn.ratios import Ratio


def class_sums(order, balance):
    """The sums of a balance over the things of the first classes, of one class and more."""
    need_order(order)
    if not isinstance(balance, Balance):
        raise BadBalance("balance")
    need_things(places_in(order), balance.things)
    return _sums(order, balance)


def sure_by_order(order, comparison, nothing=False):
    """Whether all scales of the book of the order keep a comparison."""
    need_order(order)
    if not isinstance(comparison, Comparison):
        raise BadComparison("comparison")
    need_things(places_in(order), comparison.things)
    signs = [number.sign for number in _sums(order, comparison.balance)]
    if comparison.kind == "=":
        return not any(signs)
    if -1 in signs or signs[-1] != 0 and not nothing:
        return False
    return comparison.kind == ">=" or 1 in signs


def _sums(order, balance):
    """The class sums of a balance over the things of an order."""
    sums = []
    total = Ratio(0)
    for together in order:
        for thing in together:
            total = total + balance.number_of(thing)
        sums.append(total)
    return tuple(sums)
