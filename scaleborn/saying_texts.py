"""Texts of sayings."""

from scaleborn.comparisons import read_comparison
from scaleborn.errors import TooMany
from scaleborn.reading import reader_of, whole_in
from scaleborn.saying_parts import borne

_MOST_WORDS = 4000
_MOST_OPEN = 60


def written(parts):
    """The text of a saying with these parts."""
    if _count_words(parts) > _MOST_WORDS:
        raise TooMany("words", _MOST_WORDS)
    texts = []
    for part in parts:
        texts.append(_part_text(part, [texts[number] for number in borne(part)]))
    return texts[-1]


def _count_words(parts):
    """How many words the text of a saying has."""
    counts = []
    for part in parts:
        own = _part_text(part, []).split(" ")
        counts.append(len(own) + sum([counts[number] for number in borne(part)]))
    return counts[-1]


def _part_text(part, texts):
    """The text of a part with these texts of the parts that it bears."""
    if part[0] == "holds":
        return f"[ {part[1]} ]"
    head = ["(", "some", str(part[1])] if part[0] == "some" else ["(", part[0]]
    return " ".join([*head, *texts, ")"])


def read_parts(text):
    """The parts of the saying with this text."""
    reader = reader_of(text)
    many = reader.end
    reader.end = min(many, _MOST_WORDS)
    # A frame is a part that is still open. The first one is that of the whole text.
    parts, frames = [], [["whole"]]
    while len(frames[0]) == 1:
        word, frame = reader.peek(), frames[-1]
        if word == ")" and _may_close(frame):
            reader.step()
            frames.pop()
            _put(parts, tuple(frame), frames[-1])
        elif word == "[" and _may_begin(frames):
            reader.step()
            _put(parts, ("holds", read_comparison(reader, None)), frame)
            reader.take("]")
        elif word == "(" and _may_begin(frames):
            reader.step()
            frames.append(_read_head(reader))
        else:
            reader.refuse()
    reader.end = many
    reader.finish()
    return parts


def _put(parts, part, frame):
    """Put a part, which the frame bears."""
    parts.append(part)
    frame.append(len(parts) - 1)


def _may_close(frame):
    """Whether the open part can end here."""
    return frame[0] in ("and", "or", "some") or frame[0] == "not" and len(frame) == 2


def _may_begin(frames):
    """Whether a part can begin here."""
    frame = frames[-1]
    return len(frames) <= _MOST_OPEN and (frame[0] in ("and", "or", "some") or len(frame) == 1)


def _read_head(reader):
    """Read what stands ahead of the parts that a part bears."""
    word = reader.peek()
    if word not in ("not", "and", "or", "some"):
        reader.refuse()
    reader.step()
    if word != "some":
        return [word]
    number = whole_in(reader.peek())
    if number is None:
        reader.refuse()
    reader.step()
    return [word, number]
