"""Texts of deeds and of logs of deeds, written and read."""

from nodetour.errors import BadText
from nodetour.scan import need_text, numbers_at, past, past_end

WORDS = ("open", "wall", "set", "take")


def deed_text(deed):
    """Return the text of a deed."""
    word, (x, y) = deed
    return f"{word} {x},{y}"


def read_deed(text):
    """Return the deed that is written so; BadText(place) for all else."""
    need_text(text)
    deed, at = deed_at(text, 0)
    past_end(text, at)
    return deed


def deed_at(text, at):
    """Return the deed that must stand here, and the place behind it."""
    for word in WORDS:
        # No two of the words begin with the same sign.
        if text[at:at + 1] == word[0]:
            (x, y), end = numbers_at(text, past(text, at, word), " Z,Z")
            return ((word, (x, y)), end)
    raise BadText(at)


def log_text(deeds):
    """Return the text of a log: its deeds, one a line."""
    return "\n".join([deed_text(deed) for deed in deeds])


def read_log(text):
    """Return the tuple of deeds that is written so; BadText(place) for all else."""
    need_text(text)
    if text == "":
        return ()
    deed, at = deed_at(text, 0)
    deeds = [deed]
    while at < len(text):
        deed, at = deed_at(text, past(text, at, "\n"))
        deeds.append(deed)
    return tuple(deeds)
