"""Papers: answers, and what shows them."""


def fixed(value):
    """The value with its lists as tuples and its dicts as ascending tuples of pairs, all the way in."""
    if isinstance(value, dict):
        return tuple([(key, fixed(value[key])) for key in sorted(list(value))])
    if isinstance(value, (list, tuple)):
        return tuple([fixed(item) for item in value])
    return value


class Paper:
    """A paper with a word and parts."""

    def __init__(self, word, *parts):
        self.word = word
        self.parts = fixed(parts)

    def __eq__(self, other):
        return type(self) is type(other) and self.word == other.word and self.parts == other.parts

    def __bool__(self):
        return True


class Denial(Paper):
    """A paper that says no."""

    def __init__(self, word, *parts):
        super().__init__(word, *parts)

    def __eq__(self, other):
        return type(self) is type(other) and self.word == other.word and self.parts == other.parts

    def __bool__(self):
        return False
