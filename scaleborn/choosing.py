"""Choices of some of several numbers."""


def ascending(many, count):
    """All ascending tuples of so many different numbers below many, in their order."""
    found = [()]
    for _ in range(count):
        found = [(*numbers, further) for numbers in found for further in _behind(numbers, many)]
    return found


def _behind(numbers, many):
    """The numbers below many that can stand behind ascending ones."""
    return list(range(numbers[-1] + 1 if len(numbers) > 0 else 0, many))
