"""Where stalls may stand: one stall put elsewhere, needed spots, good and shut places, and what few stalls serve."""

from nodetour.fields import common_stalls, dark_in, field, lit, seen_by_most, serve_all, tied_to
from nodetour.masks import all_of, mask_of, numbers_in
from nodetour.rooms import lot_of, shared, taken_out
from nodetour.stalls import answer_for, fewest


def sole_spots(room, lot, stalls, k):
    """Return the lot of the spots of a lot that stall number k alone serves."""
    return shared(dark_in(room, lot, others_than(stalls, k)), field(room, stalls[k]))


def others_than(stalls, k):
    """Return the tuple of the stalls but number k."""
    return stalls[:k] + stalls[k + 1:]


def places_for(room, lot, stalls, k):
    """Return the lot of the cells at which stall number k could stand, the others staying, and all be served."""
    return common_stalls(room, sole_spots(room, lot, stalls, k))


def spare_stalls(room, lot, stalls):
    """Return the ascending tuple of the numbers of the stalls without sole spots."""
    return tuple([k for k in range(len(stalls)) if sole_spots(room, lot, stalls, k) == ()])


def put_at(room, lot, stalls, k, cell):
    """Return the stalls with a cell in the place of number k, None if some spot is not served then."""
    put = lot_of(others_than(stalls, k) + (cell,))
    return put if serve_all(room, lot, put) else None


def needed_spots(room, lot):
    """Return the lot of the spots without which fewer stalls serve a lot."""
    many = fewest(room, lot)
    return tuple([spot for spot in lot if fewest(room, taken_out(lot, (spot,))) < many])


def possible_spots(room, lot):
    """Return the lot of the spots that are in some lot of spots apart with as many members as fewest."""
    many = fewest(room, lot)
    # Of the spots apart from this one as many are apart from one another as stalls are needed for them.
    return tuple([spot for spot in lot if fewest(room, taken_out(lot, tied_to(room, spot))) == many - 1])


def good_places(room, lot):
    """Return the lot of the cells that stand in some lot of fewest stalls that serves a lot."""
    many = fewest(room, lot)
    return tuple([cell for cell in room if fewest(room, rest_without(room, lot, cell)) < many])


def rest_without(room, lot, cell):
    """Return the lot of the spots of a lot that a cell does not serve."""
    return dark_in(room, lot, (cell,))


def answer_with(room, lot, cell):
    """Return a lot of fewest stalls that serves a lot and has a cell, None if there is none."""
    stalls = lot_of((cell,) + answer_for(room, rest_without(room, lot, cell))[0])
    return stalls if len(stalls) == fewest(room, lot) else None


def answers(room, lot):
    """Return the ascending tuple of all lots of fewest cells of a room that serve a lot."""
    return covers(spot_masks(room, lot, room), all_of(lot), fewest(room, lot))


def spot_masks(room, lot, cells):
    """Return a dict with the mask, among the spots of a lot, of what each of these cells serves."""
    return {cell: mask_of(lot, shared(field(room, cell), lot)) for cell in cells}


def covers(masks, left, many):
    """Return the ascending tuple of the lots of cells that serve all spots left, if fewer cells than many do not."""
    return tuple(sorted(set([lot_of(told) for told in told_covers(masks, left, many)])))


def told_covers(masks, left, many):
    """Return the list of the tuples of at most so many cells that serve all spots left.

    Each cell of a tuple is one that serves the least spot that those ahead of it leave.
    """
    if left == 0:
        return [()]
    if many == 0:
        return []
    found = []
    for cell in masks:
        if masks[cell] & left & -left:
            for rest in told_covers(masks, left & ~masks[cell], many - 1):
                found.append((cell,) + rest)
    return found


def fewest_but(room, lot, shut):
    """Return how many stalls at least, none at a shut cell, serve a lot, None if none do."""
    stalls = stalls_but(room, lot, shut)
    return None if stalls is None else len(stalls)


def stalls_but(room, lot, shut):
    """Return the least lot of fewest stalls, none at a shut cell, that serves a lot, None if there is none."""
    free = taken_out(room, shut)
    if not serve_all(room, lot, free):
        return None
    masks, many = spot_masks(room, lot, free), 0
    found = covers(masks, all_of(lot), many)
    while found == ():
        many += 1
        found = covers(masks, all_of(lot), many)
    return found[0]


def sure_places(room, lot):
    """Return the lot of the cells that stand in all answers."""
    sure = room
    for stalls in answers(room, lot):
        sure = shared(sure, stalls)
    return sure


def served_of(room, lot, stalls):
    """Return the lot of the spots of a lot that some of the stalls serves."""
    return shared(lot, lit(room, stalls))


def most_served(room, lot, k):
    """Return the greatest number of spots of a lot that k stalls serve, or fewer, and the least of the fewest such."""
    masks = spot_masks(room, lot, room)
    best = (0, ())
    for many in range(1, k + 1):
        for stalls in lots_of_size(room, many):
            served = how_many_served(masks, stalls)
            if served > best[0]:
                best = (served, stalls)
    return best


def lots_of_size(cells, many):
    """Return the ascending list of the lots of so many of some cells, an ascending tuple."""
    if many == 0:
        return [()]
    return [(cell,) + rest for k, cell in enumerate(cells) for rest in lots_of_size(cells[k + 1:], many - 1)]


def how_many_served(masks, stalls):
    """Return how many spots the stalls serve together, by the mask of what each of them serves."""
    served = 0
    for stall in stalls:
        served |= masks[stall]
    return len(numbers_in(served))


def by_greed(room, lot):
    """Return the tuple of stalls that comes if each next one is the least that serves the most spots left."""
    stalls = []
    left = lot
    while left:
        stalls.append(seen_by_most(room, left)[0])
        left = rest_without(room, left, stalls[-1])
    return tuple(stalls)
