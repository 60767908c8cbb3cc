"""Live books: rows are told and taken back while sayings are watched."""

from scaleborn.checks import is_name, is_within, need_things
from scaleborn.comparisons import Comparison
from scaleborn.errors import BadComparison, BadLive, BadNumber, BadSaying, NoName, Nothing, TooMany
from scaleborn.hulls import need_possible
from scaleborn.sayings import Saying
from scaleborn.verdicts import truth_in

_MOST_WATCHED = 12


class Live:
    """A possible book whose rows are told one by one and taken back."""

    def __init__(self, book):
        need_possible(book)
        self.first = book
        self.book = book
        self.many = 0
        self.words = ()
        self._watched = {}
        # The books ahead of the deeds that stand, and those behind the deeds that were undone.
        self._ahead = []
        self._undone = []

    def tell(self, row):
        """Put a row behind the others."""
        if not isinstance(row, Comparison):
            raise BadComparison("row")
        book = self.book.with_rows(row)
        need_possible(book)
        return self._done(book)

    def take(self, number):
        """Take out the row with this number."""
        if not is_within(number, 0, len(self.book.rows) - 1):
            raise BadNumber("number")
        return self._done(self.book.without(number))

    def back(self):
        """Undo the last deed that stands."""
        return self._moved(self._ahead, self._undone)

    def again(self):
        """Do again what was undone last."""
        return self._moved(self._undone, self._ahead)

    def watch(self, name, saying):
        """Keep a saying under a name; its word now."""
        if not is_name(name):
            raise BadLive("name")
        if not isinstance(saying, Saying):
            raise BadSaying("saying")
        need_things(self.book.things, saying.things)
        if name not in self._watched and len(self._watched) == _MOST_WATCHED:
            raise TooMany("watched", _MOST_WATCHED)
        word = truth_in(self.book, saying)
        self._watched[name] = saying
        words = dict(self.words)
        words[name] = word
        self.words = tuple([(other, words[other]) for other in words])
        return word

    def unwatch(self, name):
        """Watch the saying of this name no more; the saying."""
        saying = self.saying_of(name)
        del self._watched[name]
        self.words = tuple([(other, word) for other, word in self.words if other != name])
        return saying

    def saying_of(self, name):
        """The saying that is watched under a name."""
        if not is_name(name) or name not in self._watched:
            raise NoName(name)
        return self._watched[name]

    def twin(self):
        """An equal live book with the same deeds to undo and to do again, which goes its own way."""
        other = Live(self.first)
        other.book = self.book
        other.many = self.many
        other.words = self.words
        other._watched = dict(self._watched)
        other._ahead = list(self._ahead)
        other._undone = list(self._undone)
        return other

    def __eq__(self, other):
        if not isinstance(other, Live) or self.book != other.book:
            return False
        return list(self._watched.items()) == list(other._watched.items())

    def _done(self, book):
        """Go on to a book by a deed; the names of the sayings whose words turned."""
        words = self._words_in(book)
        self._ahead.append(self.book)
        self._undone = []
        return self._put(book, words)

    def _moved(self, start, end):
        """Go to the last one of some books, which then stands among them no more, and put this one to others."""
        if len(start) == 0:
            raise Nothing()
        words = self._words_in(start[-1])
        end.append(self.book)
        return self._put(start.pop(), words)

    def _words_in(self, book):
        """The words of the watched sayings in a book that is this one but for one row."""
        # A word that is settled stays as rows are told.
        grows = len(book.rows) > len(self.book.rows)
        return tuple([(name, word if grows and word is not None else truth_in(book, self._watched[name]))
                      for name, word in self.words])

    def _put(self, book, words):
        """Let the book be this one; the names of the sayings whose words turned."""
        turned = tuple([name for (name, old), (_, word) in zip(self.words, words) if old != word])
        self.book = book
        self.many = len(self._ahead)
        self.words = words
        return turned
