"""The desk: values under names, told by lines."""

from scaleborn.checks import is_list, is_name
from scaleborn.desk_lines import DEEDS, answer_of, deed_of
from scaleborn.errors import BadLine, BadText, NoName, Nothing, ScaleError
from scaleborn.reading import reader_of


class Desk:
    """Values that are kept under names, each with its kind, and the deeds that stand."""

    def __init__(self, lines=()):
        self._kept = {}
        # For each deed its line, the name that it kept a value under, and what the name kept ahead of it.
        self._deeds = []
        self.run(lines)

    def tell(self, line):
        """Do what a line says; the answer."""
        reader = reader_of(line)
        if reader.peek() not in DEEDS:
            return answer_of(reader, self._kept)
        name, kind, value, answer = deed_of(reader, self._kept)
        self._deeds.append((line, name, self._kept.get(name)))
        self._kept[name] = (kind, value)
        return answer

    def run(self, lines):
        """Do what all lines of a list say, or nothing of it; the list of the answers."""
        if not is_list(lines):
            raise BadLine(0, BadText(0, 0))
        kept, deeds = dict(self._kept), list(self._deeds)
        answers = []
        for index, line in enumerate(lines):
            try:
                answers.append(self.tell(line))
            except ScaleError as error:
                self._kept = kept
                self._deeds = deeds
                raise BadLine(index, error)
        return answers

    def back(self):
        """Take back the last deed that stands; its line."""
        if len(self._deeds) == 0:
            raise Nothing()
        line, name, old = self._deeds.pop()
        if old is None:
            del self._kept[name]
        else:
            self._kept[name] = old
        return line

    def told_lines(self):
        """The lines of the deeds that stand."""
        return tuple([deed[0] for deed in self._deeds])

    def kept_names(self):
        """The names that keep a value, ascending."""
        return tuple(sorted(list(self._kept)))

    def value_of(self, name):
        """The value that a name keeps."""
        if name not in self:
            raise NoName(name)
        return self._kept[name][1]

    def __len__(self):
        return len(self._kept)

    def __contains__(self, x):
        return is_name(x) and x in self._kept

    def __eq__(self, other):
        return isinstance(other, Desk) and self._kept == other._kept
