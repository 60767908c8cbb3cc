"""Sorts that are ready made: order, gaps, heaps, copies and cells."""

from scaleborn.balances import Balance
from scaleborn.checks import are_names, is_name, is_within, need_different
from scaleborn.comparisons import Pair
from scaleborn.errors import BadBalance, BadNumber, Unlike
from scaleborn.sorts import Sort

_MOST_COPIES = 4

# So many things of a list give more pairs than a sort can have, whatever stands behind them.
_ENOUGH_IN_ORDER = 7
_ENOUGH_IN_GAPS = 4
_ENOUGH_IN_HEAPS = 4
_ENOUGH_IN_CELLS = 7


def order_of(things, nothing=False):
    """Each two things; with nothing also each thing against nothing."""
    _need_list(things, "things")
    need_different(things)
    few = things[:_ENOUGH_IN_ORDER]
    balances = [_laid([one], [other]) for one in few for other in few]
    if nothing:
        balances.extend([_laid([one], []) for one in few])
    return _sort_of(balances)


def gaps_of(things):
    """a + d against b + c, for any things a, b, c, d."""
    _need_list(things, "things")
    need_different(things)
    few = things[:_ENOUGH_IN_GAPS]
    sums = [[one, other] for one in few for other in few]
    return _sort_of([_laid(ones, others) for ones in sums for others in sums])


def heaps_of(things):
    """Each two sums of different things, each once, without a common one."""
    _need_list(things, "things")
    need_different(things)
    balances = [Balance({})]
    for thing in things[:_ENOUGH_IN_HEAPS]:
        one = Balance.of(thing)
        balances = [balance + added for balance in balances for added in (one, Balance({}), -one)]
    return _sort_of(balances)


def copies_of(one, other, most):
    """i of the one against j of the other, i and j from 1 to most."""
    if not is_name(one):
        raise BadBalance("one")
    if not is_name(other):
        raise BadBalance("other")
    if not is_within(most, 1, _MOST_COPIES):
        raise BadNumber("most")
    if one == other:
        raise Unlike("things")
    counts = list(range(1, most + 1))
    return _sort_of([Balance({one: i, other: -j}) for i in counts for j in counts])


def cells_of(ones, others):
    """r + c against s + d, for any r, s of the ones and c, d of the others."""
    _need_list(ones, "ones")
    _need_list(others, "others")
    need_different(ones)
    need_different(others)
    if any([one in others for one in ones]):
        raise Unlike("things")
    columns = others[:_ENOUGH_IN_CELLS]
    sums = [[row, column] for row in ones[:_ENOUGH_IN_CELLS] for column in columns]
    return _sort_of([_laid(some, more) for some in sums for more in sums])


def _need_list(things, part):
    """Raise BadBalance for what is no list of things."""
    if not are_names(things):
        raise BadBalance(part)


def _laid(ones, others):
    """The balance of some things against other ones."""
    return Balance.of(*ones) - Balance.of(*others)


def _sort_of(balances):
    """The sort of the pairs of the balances that are not nothing, ascending by their texts."""
    pairs = {}
    for balance in balances:
        if not balance.is_nothing:
            pair = Pair(balance)
            pairs[str(pair)] = pair
    return Sort([pairs[text] for text in sorted(list(pairs))])
