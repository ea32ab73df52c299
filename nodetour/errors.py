"""All errors of the package."""


def copy_of(value):
    """Return a value equal to this one, in which lists and dicts, however deep, are copies.

    The parts are listed level by level, and made anew from the last one back, as
    recursion would not reach what is nested very deep.
    """
    parts, firsts = [value], []
    while len(firsts) < len(parts):
        inner = parts_of(parts[len(firsts)])
        firsts.append(len(parts))
        parts.extend(inner)
    for k in reversed(range(len(parts))):
        first = firsts[k]
        parts[k] = made_of(parts[k], parts[first:first + len(parts_of(parts[k]))])
    return parts[0]


def parts_of(value):
    """Return the list of the values that a list, a tuple or a dict holds, [] of all else."""
    if isinstance(value, dict):
        return list(value.values())
    if isinstance(value, (list, tuple)):
        return list(value)
    return []


def made_of(value, parts):
    """Return a value like this one that holds these parts instead of its own."""
    if isinstance(value, dict):
        return {key: part for key, part in zip(list(value), parts)}
    if isinstance(value, tuple):
        return tuple(parts)
    if isinstance(value, list):
        return list(parts)
    return value


class RoomError(ValueError):
    """What all errors of the package are."""


class BadText(RoomError):
    """A text that cannot be read; place tells how far it can be followed."""

    def __init__(self, place):
        super().__init__("this text cannot be read")
        self.place = copy_of(place)


class BadRoom(RoomError):
    """What is no right room; word tells why."""

    def __init__(self, word):
        super().__init__("this is no right room")
        self.word = copy_of(word)


class BadPaper(RoomError):
    """What is no right paper; word tells why."""

    def __init__(self, word):
        super().__init__("this is no right paper")
        self.word = copy_of(word)


class BadDeed(RoomError):
    """What is no deed."""


class NoWay(RoomError):
    """There is no way."""


class TooMany(RoomError):
    """There are too many."""


class NothingDone(RoomError):
    """There is nothing that could be taken back, or done again."""
