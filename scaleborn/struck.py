"""Striking: sayings worked out, and without the parts that a book does not need."""

from scaleborn.charts import charted
from scaleborn.checks import is_within
from scaleborn.errors import BadNumber, BadSaying
from scaleborn.saying_parts import borne, mask_of, part_key
from scaleborn.sayings import Saying, of_comparison
from scaleborn.verdicts import need_saying

YES = ("and",)
NO = ("or",)


class Bench:
    """Different parts, put one by one. Equal ones have one number, and so have equal sayings."""

    def __init__(self):
        self.made = []
        self._places = {}

    def put(self, part):
        """The number of a part."""
        place = self._places.setdefault(part_key(part), len(self.made))
        if place == len(self.made):
            self.made.append(part)
        return place

    def worked(self, part, became):
        """The number of what a part becomes, by the numbers of what the parts ahead became."""
        if part[0] == "holds":
            return self.put(part)
        numbers = [became[number] for number in borne(part)]
        if part[0] == "not":
            return self._turned(numbers[0])
        if part[0] == "some":
            return self._some(part[1], numbers)
        return self._joined(part[0], numbers)

    def _turned(self, number):
        """The number of the not of what has this number."""
        part = self.made[number]
        if part == YES or part == NO:
            return self.put(NO if part == YES else YES)
        return part[1] if part[0] == "not" else self.put(("not", number))

    def _joined(self, word, numbers):
        """The number of the and, or of the or, of what has these numbers."""
        strong = NO if word == "and" else YES
        left = []
        for number in numbers:
            if self.made[number] == strong:
                return self.put(strong)
            if self.made[number] != (word,) and number not in left:
                left.append(number)
        return left[0] if len(left) == 1 else self.put((word, *left))

    def _some(self, least, numbers):
        """The number of a some of what has these numbers."""
        left = [number for number in numbers if self.made[number] != YES and self.made[number] != NO]
        wanted = least - len([number for number in numbers if self.made[number] == YES])
        if wanted <= 0:
            return self.put(YES)
        if wanted > len(left):
            return self.put(NO)
        return left[0] if len(left) == 1 else self.put(("some", wanted, *left))


def worked_out(saying):
    """The saying without yes and no, but where it is one of them, and without what is doubled."""
    if not isinstance(saying, Saying):
        raise BadSaying("saying")
    return _worked(saying.parts)


def put_to(saying, number, truth):
    """The saying with its part of this number put to yes or no, worked out."""
    if not isinstance(saying, Saying):
        raise BadSaying("saying")
    if not is_within(number, 0, len(saying.parts) - 1):
        raise BadNumber("number")
    if not isinstance(truth, bool):
        raise BadNumber("truth")
    parts = list(saying.parts)
    parts[number] = YES if truth else NO
    return _worked(parts)


def struck(book, saying):
    """The saying without the parts that can be put to yes or no in the book."""
    need_saying(book, saying)
    chart = charted(book, saying.pairs)
    left = _worked(saying.parts)
    further = _without_one(chart, left)
    while further is not None:
        left = further
        further = _without_one(chart, left)
    return left


def _worked(parts):
    """The saying that the last one of these parts becomes."""
    bench = Bench()
    became = []
    for part in parts:
        became.append(bench.worked(part, became))
    return Saying(bench.made[:became[-1] + 1])


def _without_one(chart, saying):
    """The saying with the first part, from the last one back, that can be put; None if there is none."""
    everywhere = (1 << len(chart)) - 1
    masks = _masks(chart, saying, everywhere)
    for number in reversed(range(len(saying.parts))):
        if saying.parts[number] == YES or saying.parts[number] == NO:
            continue
        for truth in (True, False):
            if _mask_with(saying.parts, masks, number, everywhere if truth else 0, everywhere) == masks[-1]:
                return put_to(saying, number, truth)
    return None


def _masks(chart, saying, everywhere):
    """Where among the outcome lists each part of a saying holds."""
    masks = []
    for part in saying.parts:
        if part[0] == "holds":
            truths = chart.truths(of_comparison(part[1]))
            masks.append(sum([1 << at for at, truth in enumerate(truths) if truth]))
        else:
            masks.append(mask_of(part, masks, everywhere))
    return masks


def _mask_with(parts, masks, number, mask, everywhere):
    """Where the last part holds with another mask for the part of this number."""
    changed = [*masks[:number], mask]
    for at in range(number + 1, len(parts)):
        changed.append(masks[at] if parts[at][0] == "holds" else mask_of(parts[at], changed, everywhere))
    return changed[-1]
