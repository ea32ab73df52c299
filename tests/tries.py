"""Plain reckonings of where stalls may stand, by trying all lots of cells; they share nothing with the package."""

import itertools

from tests import reckon


def lots_that_serve(room, lot, cells):
    """Return the ascending list of all lots of fewest of these cells that serve a lot, None if all of them do not."""
    if not reckon.serve(room, cells, lot):
        return None
    for many in range(len(cells) + 1):
        found = [stalls for stalls in itertools.combinations(cells, many) if reckon.serve(room, stalls, lot)]
        if found:
            return found


def greatest_lots_apart(room, lot):
    """Return the list of all lots of spots of a lot apart that have the most."""
    found = reckon.lots_apart(room, lot)
    most = max(map(len, found))
    return [told for told in found if len(told) == most]


def in_all(lots):
    """Return the ascending tuple of what is in each of some lots, one of them at least."""
    return tuple(sorted(set.intersection(*map(set, lots))))


def in_some(lots):
    """Return the ascending tuple of what is in some of the lots."""
    return tuple(sorted(set().union(*lots)))


def served_together(room, lot, stalls):
    """Return the lot of the spots of a lot that some of the stalls serves."""
    return tuple(spot for spot in lot if reckon.serve(room, stalls, (spot,)))


def most_served(room, lot, k):
    """Return (n, stalls): of all lots of k cells, or fewer, the first, fewest and least ahead, with the most served."""
    told = [stalls for many in range(k + 1) for stalls in itertools.combinations(room, many)]
    return max(((len(served_together(room, lot, stalls)), stalls) for stalls in told), key=lambda pair: pair[0])


def sole(room, lot, stalls, k):
    """Return the spots of a lot that stall number k serves and no other one does."""
    return tuple(spot for spot in lot if [spot in reckon.served(room, stall) for stall in stalls]
                 == [number == k for number in range(len(stalls))])


def number_of(room):
    """Return the fewest cells of a room that serve all of it."""
    return reckon.fewest_stalls(room, room)


def pieces_of(cells):
    """Return the ascending list of the pieces of some cells by sides: parts that touch are put together."""
    parts = []
    for x, y in cells:
        beside = {(x + 1, y), (x - 1, y), (x, y + 1), (x, y - 1)}
        touching = [part for part in parts if part & beside]
        parts = [part for part in parts if not part & beside] + [{(x, y)}.union(*touching)]
    return sorted(tuple(sorted(part)) for part in parts)


def is_room(cells):
    """Return whether some cells are a room: one piece, and cells less pairs and squares added are 1."""
    told = set(cells)
    pairs = sum(((x + 1, y) in told) + ((x, y + 1) in told) for x, y in told)
    squares = sum({(x + 1, y), (x, y + 1), (x + 1, y + 1)} <= told for x, y in told)
    return len(pieces_of(told)) == 1 and len(told) - pairs + squares == 1
