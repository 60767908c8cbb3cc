"""Words of texts, read one by one."""

from scaleborn.errors import BadText

_MOST_DIGITS = 60


class Reader:
    """The words of a text, read up to an end.

    A missing word is read as the empty word: neither can stand anywhere, and the place tells
    both apart.
    """

    def __init__(self, words):
        self.words = words
        self.at = 0
        self.end = len(words)

    def peek(self):
        """The word that stands here."""
        return self.words[self.at] if self.at < self.end else ""

    def step(self):
        """Go on to the next word."""
        self.at += 1

    def refuse(self):
        """The word that stands here cannot stand."""
        raise BadText(0, self.at)

    def refuse_last(self):
        """The word ahead cannot stand."""
        raise BadText(0, self.at - 1)

    def take(self, word):
        """Go on behind this word, and no other one."""
        if self.peek() != word:
            self.refuse()
        self.step()

    def finish(self):
        """No word more can stand."""
        if self.at < self.end:
            self.refuse()

    def is_alone(self, word):
        """Whether this word stands here; then no other one can stand behind it."""
        if self.peek() != word:
            return False
        self.step()
        self.finish()
        return True


def reader_of(text):
    """A reader of all words of a text."""
    if not isinstance(text, str):
        raise BadText(0, 0)
    return Reader(text.split(" "))


def whole_in(word):
    """The integer from 0 on that the word writes, None for any other word."""
    if len(word) > _MOST_DIGITS or not word.isascii() or not word.isdigit():
        return None
    if word[0] == "0" and len(word) > 1:
        return None
    return int(word)
