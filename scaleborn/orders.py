"""Weak orders of things, and the books of orders."""

from math import lcm

from scaleborn.balances import Balance
from scaleborn.checks import are_names, is_list, need_different
from scaleborn.comparisons import compared
from scaleborn.errors import BadBalance, BadOrder, BadScale, TooMany
from scaleborn.scales import Scale

_MOST_THINGS = 6


def weak_orders(things):
    """Yield all weak orders of the things, in the order of their outcome lists."""
    if not are_names(things) or len(things) == 0:
        raise BadBalance("things")
    need_different(things)
    if len(things) > _MOST_THINGS:
        raise TooMany("things", _MOST_THINGS)
    told = [[_outcomes_of(order), order] for order in _orders_of(sorted(list(things)))]
    for _, order in sorted(told, reverse=True):
        yield order


def order_at(scale):
    """The weak order that the scale has."""
    if not isinstance(scale, Scale):
        raise BadScale("scale")
    worths = [scale.worth(Balance.of(thing)) for thing in scale.things]
    bottom = 1
    for worth in worths:
        bottom = lcm(bottom, worth.bottom)
    classes = {}
    for thing, worth in zip(scale.things, worths):
        classes.setdefault(worth.top * (bottom // worth.bottom), []).append(thing)
    return tuple([tuple(classes[whole]) for whole in sorted(list(classes), reverse=True)])


def order_outcomes(order):
    """The outcome list of an order for the pairs of its things."""
    need_order(order)
    return _outcomes_of(order)


def order_rows(order, nothing=False):
    """The rows of the book of an order."""
    need_order(order)
    rows = []
    for at, together in enumerate(order):
        rows.extend([_row(together[0], "=", other) for other in together[1:]])
        if at + 1 < len(order):
            rows.append(_row(together[0], ">", order[at + 1][0]))
    if nothing:
        rows.append(compared(Balance.of(order[-1][0]), ">", Balance({})))
    return tuple(rows)


def need_order(order):
    """Raise what is wrong with an order."""
    need_form(order)
    if len(places_in(order)) > _MOST_THINGS:
        raise TooMany("things", _MOST_THINGS)


def need_form(order):
    """Raise what is wrong with an order but for too many things."""
    if not is_list(order) or len(order) == 0 or not all([_is_class(together) for together in order]):
        raise BadOrder("order")
    need_different([thing for together in order for thing in together])


def places_in(order):
    """The number of its class for each thing of an order."""
    return {thing: at for at, together in enumerate(order) for thing in together}


def _is_class(value):
    """Whether any value is a list of one name or more that ascend, each once."""
    if not are_names(value) or len(value) == 0:
        return False
    return all([value[at] < value[at + 1] for at in range(len(value) - 1)])


def _outcomes_of(order):
    """The outcome list of an order that is right."""
    places = places_in(order)
    things = sorted(list(places))
    gaps = [places[other] - places[one] for at, one in enumerate(things) for other in things[at + 1:]]
    return tuple([(gap > 0) - (gap < 0) for gap in gaps])


def _orders_of(things):
    """All weak orders of ascending things: the last thing is put beside or between the others."""
    orders = [()]
    for thing in things:
        orders = [wider for order in orders for wider in _with_thing(order, thing)]
    return orders


def _with_thing(order, thing):
    """The weak orders that are this one but for one thing more, which is above all others by its name."""
    between = [(*order[:at], (thing,), *order[at:]) for at in range(len(order) + 1)]
    beside = [(*order[:at], (*together, thing), *order[at + 1:]) for at, together in enumerate(order)]
    return [*between, *beside]


def _row(one, kind, other):
    """One thing against another one."""
    return compared(Balance.of(one), kind, Balance.of(other))
