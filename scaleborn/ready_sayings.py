"""Sayings that are ready made."""

from scaleborn.balances import Balance, mean_of
from scaleborn.checks import are_names, is_name, is_within, need_different
from scaleborn.comparisons import compared, is_kind
from scaleborn.errors import BadBalance, BadComparison, BadNumber
from scaleborn.ratios import is_ratio
from scaleborn.sayings import at_least, both_of, either_of, exactly, no, of_comparison, yes


def says_more(one, kind, other):
    """The one balance against the other one."""
    _need_balance(one, "one")
    _need_kind(kind)
    _need_balance(other, "other")
    if one == other:
        return no() if kind == ">" else yes()
    return of_comparison(compared(one, kind, other))


def means(ones, kind, others):
    """The mean of some things against that of others."""
    _need_some(ones, "ones")
    _need_kind(kind)
    _need_some(others, "others")
    return says_more(mean_of(ones), kind, mean_of(others))


def middle_is(things, kind, other):
    """The middle one of an odd number of things against another thing."""
    _need_things(things, "things")
    if len(things) % 2 == 0:
        raise BadNumber("things")
    _need_kind(kind)
    _need_thing(other, "other")
    need_different(things)
    if kind == "=":
        return both_of([_half_of(things, ">=", other), ~_half_of(things, ">", other)])
    return _half_of(things, kind, other)


def greatest_is(thing, things):
    """No one of some things is above the thing."""
    return both_of([_more(thing, ">=", other) for other in _others(thing, things)])


def sole_greatest(thing, things):
    """The thing is above each other one of some things."""
    return both_of([_more(thing, ">", other) for other in _others(thing, things)])


def rank_is(thing, things, rank):
    """Just so many of some things are above the thing."""
    _need_thing(thing, "thing")
    _need_things(things, "things")
    if not is_within(rank, 0, None):
        raise BadNumber("rank")
    return exactly(rank, [_more(other, ">", thing) for other in _others(thing, things)])


def lies_between(thing, one, other):
    """The thing lies strictly between two other ones."""
    _need_thing(thing, "thing")
    _need_thing(one, "one")
    _need_thing(other, "other")
    return either_of([both_of([_more(one, ">", thing), _more(thing, ">", other)]),
                      both_of([_more(other, ">", thing), _more(thing, ">", one)])])


def more_even(one, other, third, fourth):
    """The gap of the first two things is less than that of the last two."""
    _need_thing(one, "one")
    _need_thing(other, "other")
    _need_thing(third, "third")
    _need_thing(fourth, "fourth")
    return either_of([both_of([_sums([third, other], [fourth, one]), _sums([third, one], [fourth, other])]),
                      both_of([_sums([fourth, one], [third, other]), _sums([fourth, other], [third, one])])])


def is_times(one, ratio, other, kind="="):
    """One thing against so many times another one."""
    _need_thing(one, "one")
    if not is_ratio(ratio):
        raise BadNumber("ratio")
    _need_thing(other, "other")
    _need_kind(kind)
    return says_more(Balance.of(one), kind, Balance.of(other) * ratio)


def _half_of(things, kind, other):
    """At least half of an odd number of things, rounded up, against another thing."""
    return at_least(len(things) // 2 + 1, [_more(thing, kind, other) for thing in things])


def _others(thing, things):
    """The different things of a list but for the thing itself."""
    _need_thing(thing, "thing")
    _need_things(things, "things")
    need_different(things)
    return [other for other in things if other != thing]


def _more(one, kind, other):
    """One thing against another one."""
    return says_more(Balance.of(one), kind, Balance.of(other))


def _sums(ones, others):
    """The sum of some things is more than that of other ones."""
    return says_more(Balance.of(*ones), ">", Balance.of(*others))


def _need_balance(value, part):
    """Raise BadBalance for no balance."""
    if not isinstance(value, Balance):
        raise BadBalance(part)


def _need_thing(value, part):
    """Raise BadBalance for no thing."""
    if not is_name(value):
        raise BadBalance(part)


def _need_things(value, part):
    """Raise BadBalance for no list of things."""
    if not are_names(value):
        raise BadBalance(part)


def _need_some(value, part):
    """Raise BadBalance for no list of one thing or more."""
    if not are_names(value) or len(value) == 0:
        raise BadBalance(part)


def _need_kind(value):
    """Raise BadComparison for no kind of a comparison."""
    if not is_kind(value):
        raise BadComparison("kind")
