"""One stall for many spots: meetings, greatest lots of one stall, shifts and even dealings."""

from nodetour.fields import common_stalls, dark_in, field, field_masks, has_whole_of, least_pair, seen_by_most, tied_to
from nodetour.joining import split_of
from nodetour.kinds import is_lot_in, is_lots_in, is_pair
from nodetour.masks import chosen, mask_of
from nodetour.rooms import shared, taken_out, united
from nodetour.stalls import fewest
from nodetour.webs import web_of


def meeting(room, lot):
    """Return ("stall", cell) with the least common stall of a lot, ("apart", one, other) if it has none."""
    common = common_stalls(room, lot)
    if common:
        return ("stall", common[0])
    return ("apart",) + least_pair(room, lot, False)


def judge_meeting(room, lot, value):
    """Return None if any value is a stall for all of a lot, or a pair of its spots that are apart; else its fault."""
    if is_told_stall(room, value):
        dark = dark_in(room, lot, [value[1]])
        return ("stall", dark[0]) if dark else None
    if not is_told_pair(room, value):
        return ("form",)
    for spot in value[1:]:
        if spot not in lot:
            return ("foreign", spot)
    common = common_stalls(room, value[1:])
    return ("tied", common[0]) if common else None


def is_told_stall(room, value):
    """Return whether any value is ("stall", cell) with a cell of the room."""
    return is_pair(value) and value[0] == "stall" and is_lot_in(value[1:], room)


def is_told_pair(room, value):
    """Return whether any value is ("apart", one, other) with cells of the room, one less than other."""
    if not isinstance(value, tuple) or len(value) != 3:
        return False
    return value[0] == "apart" and is_lot_in(value[1:], room)


def is_lot_of_one(room, lot):
    """Return whether some stall serves all of a lot."""
    return common_stalls(room, lot) != ()


def greatest_lots(room, lot):
    """Return the ascending tuple of the greatest of the lots of all spots of a lot that some stall serves."""
    masks = [mask_of(lot, shared(field(room, stall), lot)) for stall in room]
    masks = sorted(set(masks))
    greatest = [mask for mask in masks if mask != 0 and not has_whole_of(masks, mask)]
    return tuple(sorted([chosen(lot, mask) for mask in greatest]))


def greatest_one(room, lot):
    """Return the least cell that serves the most spots of a lot, not (), and these spots."""
    cell = seen_by_most(room, lot)[0]
    return (cell, shared(field(room, cell), lot))


def load(room, lot):
    """Return the most spots of a lot that one stall serves."""
    return seen_by_most(room, lot)[1]


def shifts(room, lot):
    """Return a dealing of a lot with as many lots as load tells."""
    return split_of(web_of(room, lot))[0]


def judge_shifts(room, lot, value):
    """Return None if any value is a dealing of a lot with as many lots as load tells, else its first fault."""
    if not is_lots_in(value, room):
        return ("form",)
    spots = [spot for part in value for spot in part]
    foreign = taken_out(spots, lot)
    if foreign:
        return ("foreign", foreign[0])
    for spot in lot:
        if spots.count(spot) != 1:
            return ("spot", spot)
    for k, part in enumerate(value):
        pair = least_pair(room, part, True)
        if pair is not None:
            return ("tied", k) + pair
    return ("many", len(value)) if len(value) > load(room, lot) else None


def shift_of(dealing, spot):
    """Return the number of the lot of a dealing that has a spot."""
    return [k for k, part in enumerate(dealing) if spot in part][0]


def moved_spot(room, dealing, spot, k):
    """Return the dealing with a spot in lot number k instead, None if another spot there is tied to it."""
    if spot in dealing[k]:
        return dealing
    if shared(dealing[k], tied_to(room, spot)):
        return None
    return put_into(dealing, spot, k)


def put_into(dealing, spot, k):
    """Return the dealing, ascending, without empty lots, with a spot in lot number k alone."""
    lots = [taken_out(part, (spot,)) for part in dealing]
    lots[k] = united(lots[k], (spot,))
    return tuple(sorted([part for part in lots if part != ()]))


def balanced(room, lot, n):
    """Return a dealing of a lot with at most n lots that is even for n, n from load on."""
    masks = field_masks(room, lot)
    dealing = shifts(room, lot)
    further = evener(masks, dealing, n)
    while further is not None:
        dealing = further
        further = evener(masks, dealing, n)
    return dealing


def is_even_for(room, dealing, n):
    """Return whether a dealing with at most n lots is even for n."""
    spots = [spot for part in dealing for spot in part]
    return evener(field_masks(room, spots), dealing, n) is None


def evener(masks, dealing, n):
    """Return the dealing behind one move that makes it more even, None if there is none.

    masks are those of the fields of its spots: two are tied if theirs have a cell in common.
    """
    for part in dealing:
        if len(part) > 1 and len(dealing) < n:
            return put_into(dealing + ((),), part[0], len(dealing))
        for k, other in enumerate(dealing):
            if len(other) <= len(part) - 2:
                for spot in part:
                    if is_apart_from(masks, spot, other):
                        return put_into(dealing, spot, k)
    return None


def is_apart_from(masks, spot, lot):
    """Return whether a spot is tied to none of a lot."""
    for other in lot:
        if masks[spot] & masks[other] != 0:
            return False
    return True


def bounds(room, lot):
    """Return the load of a lot, not (), the fewest stalls that serve it, and how many spots it has."""
    return (load(room, lot), fewest(room, lot), len(lot))
