"""The parts of sayings: which ones are right, their one form, their truths."""

from scaleborn.checks import is_integer, is_list, is_within
from scaleborn.comparisons import Comparison
from scaleborn.errors import TooMany

_MOST_PARTS = 2000


def are_parts(value):
    """Whether any value is a list of parts, one or more, each with numbers of parts ahead of it."""
    if not is_list(value) or len(value) == 0:
        return False
    return all([_is_part(part, at) for at, part in enumerate(value)])


def _is_part(part, at):
    """Whether any value is a part with numbers of parts ahead of this place."""
    if not is_list(part) or len(part) == 0 or not isinstance(part[0], str):
        return False
    if part[0] == "holds":
        return len(part) == 2 and isinstance(part[1], Comparison)
    if part[0] == "some":
        return len(part) > 1 and is_within(part[1], 0, None) and _are_ahead(part[2:], at)
    if part[0] == "not":
        return len(part) == 2 and _are_ahead(part[1:], at)
    return part[0] in ("and", "or") and _are_ahead(part[1:], at)


def _are_ahead(numbers, at):
    """Whether all are numbers of parts ahead of this place."""
    return all([is_integer(number) and 0 <= number < at for number in numbers])


def borne(part):
    """The numbers that a part bears."""
    if part[0] == "holds":
        return ()
    return part[2:] if part[0] == "some" else part[1:]


def formed(parts):
    """The parts in one form."""
    numbers = {}
    places = {}
    put = []
    # The walk keeps its own stack: each part may stand over the one ahead of it.
    stack = [len(parts) - 1]
    while len(stack) > 0:
        at = stack.pop()
        if at in numbers:
            continue
        waiting = [number for number in borne(parts[at]) if number not in numbers]
        if len(waiting) > 0:
            stack.extend([at, *waiting[::-1]])
            continue
        part = with_numbers(parts[at], numbers)
        numbers[at] = places.setdefault(part_key(part), len(put))
        if numbers[at] == len(put):
            put.append(part)
        if len(put) > _MOST_PARTS:
            raise TooMany("parts", _MOST_PARTS)
    return tuple(put)


def with_numbers(part, numbers):
    """The part with the new numbers of the parts that it bears."""
    if part[0] == "holds":
        return ("holds", part[1])
    head = ("some", part[1]) if part[0] == "some" else (part[0],)
    return (*head, *[numbers[number] for number in borne(part)])


def part_key(part):
    """A flat tuple of strings and integers that tells a part."""
    return ("holds", part[1].kind, *part[1].balance.key) if part[0] == "holds" else part


def different_pairs(comparisons):
    """The pairs of the comparisons, each once, and for each comparison the number and the turn of its pair."""
    pairs = []
    places = {}
    turns = []
    for comparison in comparisons:
        pair = comparison.pair
        number = places.setdefault(pair.balance.key, len(pairs))
        if number == len(pairs):
            pairs.append(pair)
        turns.append((number, 1 if pair.balance == comparison.balance else -1))
    return pairs, turns


def truth_of(parts, kept):
    """Whether the last part holds where these of the comparisons are kept, told in their order."""
    masks = []
    comparisons = 0
    for part in parts:
        if part[0] == "holds":
            masks.append(1 if kept[comparisons] else 0)
            comparisons += 1
        else:
            masks.append(mask_of(part, masks, 1))
    return masks[-1] == 1


def mask_of(part, masks, everywhere):
    """Where a part holds, by where the parts ahead do: each mask has a bit for each place.

    Everywhere is the mask of all places.
    """
    told = [masks[number] for number in borne(part)]
    if part[0] == "not":
        return everywhere ^ told[0]
    if part[0] == "some":
        return _where_some(part[1], told, everywhere)
    held = everywhere if part[0] == "and" else 0
    for mask in told:
        held = held & mask if part[0] == "and" else held | mask
    return held


def _where_some(least, masks, everywhere):
    """Where at least so many of the masks have their bits."""
    # The bits of how many there are at each place, the lowest ones first.
    counter = []
    for mask in masks:
        carry = mask
        for at in range(len(counter)):
            old = counter[at]
            counter[at] = old ^ carry
            carry = old & carry
        if carry != 0:
            counter.append(carry)
    if least.bit_length() > len(counter):
        return 0
    above, equal = 0, everywhere
    for at in reversed(range(len(counter))):
        if least >> at & 1 == 1:
            equal = equal & counter[at]
        else:
            above = above | equal & counter[at]
            equal = equal & (everywhere ^ counter[at])
    return above | equal


def laid_together(sayings_parts, head):
    """The parts of several sayings and one part of this head that bears the last one of each."""
    parts = []
    lasts = []
    for told in sayings_parts:
        start = len(parts)
        parts.extend([_moved(part, start) for part in told] if start > 0 else told)
        lasts.append(len(parts) - 1)
    return [*parts, (*head, *lasts)]


def _moved(part, start):
    """The part behind so many further parts."""
    if part[0] == "holds":
        return part
    head = ("some", part[1]) if part[0] == "some" else (part[0],)
    return (*head, *[number + start for number in borne(part)])


def renamed_part(part, names):
    """The part with its things under other names."""
    if part[0] != "holds":
        return part
    balance = part[1].balance.renamed(names)
    if balance.is_nothing:
        return ("or",) if part[1].kind == ">" else ("and",)
    return ("holds", Comparison(balance, part[1].kind))
