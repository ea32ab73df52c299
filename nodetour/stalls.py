"""The fewest stalls that serve a lot of spots, as many spots apart, and judges of both."""

from nodetour.fields import common_stalls, dark_in, field, hard_in, least_pair
from nodetour.joining import split_of
from nodetour.kinds import is_lot_in, is_pair
from nodetour.rooms import is_number, taken_out
from nodetour.ways import first_way, is_way
from nodetour.webs import contrary, web_of


def answer(room):
    """Return an answer for all cells of a room."""
    return answer_for(room, room)


def answer_for(room, lot):
    """Return an answer for a lot: fewest stalls that serve it, and as many spots of it that are apart."""
    # The spots of a group are tied, each two, so one stall serves them all.
    parts, knot = split_of(contrary(web_of(room, hard_in(room, lot))))
    return (tuple(sorted([common_stalls(room, part)[0] for part in parts])), knot)


def fewest(room, lot):
    """Return how many stalls at least serve a lot."""
    return len(answer_for(room, lot)[0])


def judge_answer(room, lot, value):
    """Return None if any value is an answer for a lot, else its first fault."""
    if not is_pair(value) or not is_lot_in(value[0], room) or not is_lot_in(value[1], room):
        return ("form",)
    stalls, spots = value
    fault = fault_of_stalls(room, lot, stalls) or fault_of_spots(room, lot, spots)
    if fault is not None:
        return fault
    if len(stalls) != len(spots):
        return ("many", len(stalls), len(spots))
    return None


def fault_of_stalls(room, lot, stalls):
    """Return None if stalls serve all of a lot, else the fault of the least spot that none serves."""
    dark = dark_in(room, lot, stalls)
    return ("dark", dark[0]) if dark else None


def fault_of_spots(room, lot, spots):
    """Return None if spots, cells of the room, are of a lot and each two apart, else their first fault."""
    foreign = taken_out(spots, lot)
    if foreign:
        return ("foreign", foreign[0])
    tied = least_pair(room, spots, True)
    return None if tied is None else ("tied",) + tied


def judge_stalls(room, lot, value):
    """Return None if any value is a lot of stalls that serve all of a lot, else its first fault."""
    if not is_lot_in(value, room):
        return ("form",)
    return fault_of_stalls(room, lot, value)


def judge_spots(room, lot, value):
    """Return None if any value is a lot of spots of a lot, each two apart, else its first fault."""
    if not is_lot_in(value, room):
        return ("form",)
    return fault_of_spots(room, lot, value)


def served_by(room, stalls, spot):
    """Return the ascending tuple of the numbers of the stalls that serve a spot."""
    served = field(room, spot)
    return tuple([k for k, stall in enumerate(stalls) if stall in served])


def dealt(room, stalls, lot):
    """Return the tuple, for each of stalls that serve a lot, of the spots of it that it is the first to serve."""
    spots = [[] for _ in stalls]
    for spot in lot:
        spots[served_by(room, stalls, spot)[0]].append(spot)
    return tuple([tuple(part) for part in spots])


def plan_for(room, stalls, lot):
    """Return the tuple, for each spot of a lot, of the number of the first stall that serves it, and its first way."""
    plan = []
    for spot in lot:
        number = served_by(room, stalls, spot)[0]
        plan.append((number, first_way(room, stalls[number], spot)))
    return tuple(plan)


def judge_plan(room, stalls, lot, value):
    """Return None if any value is a tuple of pairs of a stall's number and a way, one for each spot, else its fault."""
    if not isinstance(value, tuple) or len(value) != len(lot):
        return ("form",)
    for pair in value:
        if not is_pair(pair) or not is_number_below(pair[0], len(stalls)) or not isinstance(pair[1], str):
            return ("form",)
    for k, (number, way) in enumerate(value):
        if not is_way(room, stalls[number], lot[k], way):
            return ("way", k)
    return None


def is_number_below(value, many):
    """Return whether any value is an integer from 0 on and less than many."""
    return is_number(value) and 0 <= value < many
