"""What any value is: pairs, and lots of members that are told; also pairs of members."""

from nodetour.rooms import is_lot, lies_in


def is_pair(value):
    """Return whether any value is a tuple of two."""
    return isinstance(value, tuple) and len(value) == 2


def is_lot_in(value, members):
    """Return whether any value is a lot of cells all of which are members."""
    return is_lot(value) and lies_in(value, members)


def is_lots_in(value, members):
    """Return whether any value is an ascending tuple of unlike lots, not (), of members."""
    if not isinstance(value, tuple):
        return False
    for lot in value:
        if not is_lot_in(lot, members) or lot == ():
            return False
    return ascends(value)


def ascends(values):
    """Return whether each value of a tuple is greater than the one ahead; they can be compared."""
    for k in range(1, len(values)):
        if values[k] <= values[k - 1]:
            return False
    return True


def pairs_of(members):
    """Return the list of the pairs of unlike members of an ascending tuple, the lesser one first, ascending."""
    return [(one, other) for k, one in enumerate(members) for other in members[k + 1:]]


def ordered(one, other):
    """Return the pair of two values, the lesser one first."""
    return (min(one, other), max(one, other))
