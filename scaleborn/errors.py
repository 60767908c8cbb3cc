"""The errors of the package.

Fields may be any values, so no error makes a message of them.
"""


class ScaleError(ValueError):
    """The base of all errors of the package."""


class BadRatio(ScaleError):
    """Something that is told as a ratio is none."""

    def __init__(self, part):
        self.part = part


class BadBalance(ScaleError):
    """Something that is told as a balance, or as a thing, is none."""

    def __init__(self, part):
        self.part = part


class BadComparison(ScaleError):
    """Something that is told as a comparison is none."""

    def __init__(self, part):
        self.part = part


class BadPair(ScaleError):
    """Something that is told as a pair is none."""

    def __init__(self, part):
        self.part = part


class BadSort(ScaleError):
    """Something that is told as a sort is none."""

    def __init__(self, part):
        self.part = part


class BadScale(ScaleError):
    """Something that is told as a scale is none."""

    def __init__(self, part):
        self.part = part


class BadBook(ScaleError):
    """Something that is told as a book is none."""

    def __init__(self, part):
        self.part = part


class BadSaying(ScaleError):
    """Something that is told as a saying is none."""

    def __init__(self, part):
        self.part = part


class BadHands(ScaleError):
    """Something that is told as hands is none."""

    def __init__(self, part):
        self.part = part


class BadOrder(ScaleError):
    """Something that is told as a weak order is none."""

    def __init__(self, part):
        self.part = part


class BadNumber(ScaleError):
    """A number is none within its bounds."""

    def __init__(self, part):
        self.part = part


class BadPaper(ScaleError):
    """Something that is told as a paper is none."""

    def __init__(self, part):
        self.part = part


class BadLive(ScaleError):
    """Something that is told as a live book is none."""

    def __init__(self, part):
        self.part = part


class BadDesk(ScaleError):
    """Something that is told as a desk is none."""

    def __init__(self, part):
        self.part = part


class Missing(ScaleError):
    """There is none of this name here; raised nowhere itself."""

    def __init__(self, name):
        self.name = name


class NoThing(Missing):
    """There is no such thing here."""

    def __init__(self, name):
        self.name = name


class NoName(Missing):
    """There is nothing of this name here."""

    def __init__(self, name):
        self.name = name


class NoPair(ScaleError):
    """The text of a pair that is lacking."""

    def __init__(self, pair):
        self.pair = pair


class Twice(ScaleError):
    """A thing, or the text of a pair, that stands twice."""

    def __init__(self, name):
        self.name = name


class Unlike(ScaleError):
    """Values that do not go together."""

    def __init__(self, what):
        self.what = what


class Impossible(ScaleError):
    """A book has no scale."""

    def __init__(self, paper):
        self.paper = paper


class NotAbove(ScaleError):
    """A scale at which a balance is not above 0."""

    def __init__(self, scale):
        self.scale = scale


class NotCarried(ScaleError):
    """Two scales that agree on a sort, or on told sayings, and divide a saying."""

    def __init__(self, one, other):
        self.one = one
        self.other = other


class Hanging(ScaleError):
    """Two scales that divide a saying."""

    def __init__(self, kept, broken):
        self.kept = kept
        self.broken = broken


class Nothing(ScaleError):
    """There is nothing to do it with."""

    def __init__(self):
        pass


class TooMany(ScaleError):
    """There are more of these than may be."""

    def __init__(self, what, most):
        self.what = what
        self.most = most


class BadText(ScaleError):
    """A word of a text that cannot stand, or that is missing."""

    def __init__(self, line, word):
        self.line = line
        self.word = word


class BadLine(ScaleError):
    """A line of a desk, and the error that was raised there."""

    def __init__(self, line, error):
        self.line = line
        self.error = error
