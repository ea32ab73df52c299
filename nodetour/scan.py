"""Reading a text sign by sign.

Each function is given a text and the place at which to go on, and raises BadText with
the first place at which no text of the form could go on as this one does.
"""

from nodetour.errors import BadText

DIGITS = "0123456789"
# In a form "z" stands for any integer, "n" for one from 0 on, "Z" for any one that may be longer.
MOST_DIGITS = {"z": 9, "n": 9, "Z": 60}


def need_text(value):
    """Raise BadText(0) for what is no text."""
    if not isinstance(value, str):
        raise BadText(0)


def past(text, at, word):
    """Return the place behind a word that must stand here."""
    for sign in word:
        if at == len(text) or text[at] != sign:
            raise BadText(at)
        at += 1
    return at


def past_end(text, at):
    """Raise BadText if the text goes on."""
    if at < len(text):
        raise BadText(at)


def number_at(text, at, kind):
    """Return the integer of a kind, one of those of MOST_DIGITS, that must stand here, and the place behind it."""
    begin = at
    firsts = DIGITS
    if kind != "n" and text[at:at + 1] == "-":
        at += 1
        firsts = DIGITS[1:]
    if at == len(text) or text[at] not in firsts:
        raise BadText(at)
    if text[at] == "0":
        return (0, at + 1)
    end = at + signs_among(text[at:at + MOST_DIGITS[kind]], DIGITS)
    return (int(text[begin:end]), end)


def signs_among(text, signs):
    """Return how many signs the longest beginning of a text has that is made of these signs."""
    many = 0
    while many < len(text) and text[many] in signs:
        many += 1
    return many


def numbers_at(text, at, form):
    """Return the list of the integers that must stand here in a form, and the place behind.

    In the form each sign that is not in MOST_DIGITS stands for itself.
    """
    numbers = []
    for sign in form:
        if sign in MOST_DIGITS:
            number, at = number_at(text, at, sign)
            numbers.append(number)
        else:
            at = past(text, at, sign)
    return (numbers, at)


def items_of(value, form):
    """Return the list of the lists of integers of a line of items of a form, "-" if it has none."""
    need_text(value)
    if value == "-":
        return []
    numbers, at = numbers_at(value, 0, form)
    items = [numbers]
    while at < len(value):
        numbers, at = numbers_at(value, past(value, at, " "), form)
        items.append(numbers)
    return items
