"""Spots that weigh more than others: settings that meet weights, and lots apart with the greatest burden."""

from nodetour.fields import common_stalls, field, field_masks, least_pair, tied_to
from nodetour.joining import split_of
from nodetour.kinds import ascends, is_pair, pairs_of
from nodetour.rooms import is_cell, is_lot, is_number, lies_in, lot_of, table_of, united


def judge_weights(room, value):
    """Return None if any value is weights of a room, else the first kind of fault that it has anywhere."""
    if not are_cells_with_numbers(value, 0):
        return ("form",)
    table = table_of(room)
    for k, (cell, _) in enumerate(value):
        if cell not in table:
            return ("cell", k)
    for k in range(1, len(value)):
        if value[k][0] <= value[k - 1][0]:
            return ("ascend", k)
    return None


def are_cells_with_numbers(value, least):
    """Return whether any value is a tuple of pairs of a cell and an integer from the least one on."""
    if not isinstance(value, tuple):
        return False
    for pair in value:
        if not is_pair(pair) or not is_cell(pair[0]) or not is_number(pair[1]) or pair[1] < least:
            return False
    return True


def is_weights(room, value):
    """Return whether any value is weights of a room."""
    return judge_weights(room, value) is None


def cells_of(pairs):
    """Return the tuple of the cells of pairs of a cell and an integer."""
    return tuple([cell for cell, _ in pairs])


def weight_of(weights, cell):
    """Return the integer that stands with a cell, 0 if it does not stand there."""
    return dict(weights).get(cell, 0)


def whole_weight(weights):
    """Return the sum of all weights."""
    return sum([w for _, w in weights])


def even_weights(lot, w):
    """Return the weights with w for each spot of a lot."""
    return tuple([(spot, w) for spot in lot])


def weights_sum(one, other):
    """Return the weights in which each cell of one or other has the sum of both."""
    here, there = dict(one), dict(other)
    return tuple([(cell, here.get(cell, 0) + there.get(cell, 0)) for cell in united(cells_of(one), cells_of(other))])


def times_weights(weights, k):
    """Return the weights that are k times as much."""
    return tuple([(cell, k * w) for cell, w in weights])


def heavier(weights, spot, k):
    """Return the weights with k more at a spot."""
    return weights_sum(weights, ((spot, k),))


def size_of(setting):
    """Return how many stalls a setting has."""
    return whole_weight(setting)


def times_served(room, setting, spot):
    """Return how many stalls of a setting serve a spot."""
    return burden(setting, field(room, spot))


def judge_setting(room, weights, value):
    """Return None if any value is a setting that meets weights, else its first fault."""
    if not are_cells_with_numbers(value, 1) or not ascends(cells_of(value)) or not lies_in(cells_of(value), room):
        return ("form",)
    for spot, w in weights:
        many = times_served(room, value, spot)
        if many < w:
            return ("short", spot, many)
    return None


def judge_apart(room, weights, value):
    """Return None if any value is a lot of spots of weights that is apart, else its first fault."""
    if not is_lot(value) or not lies_in(value, cells_of(weights)):
        return ("form",)
    tied = least_pair(room, value, True)
    return None if tied is None else ("tied",) + tied


def burden(weights, lot):
    """Return the sum of the weights of a lot's spots."""
    told = dict(weights)
    return sum([told.get(spot, 0) for spot in lot])


def heaviest(room, weights):
    """Return the greatest burden of a lot of spots of weights that is apart, and one that has it."""
    lot = weighted_answer(room, weights)[1]
    return (burden(weights, lot), lot)


def fewest_for(room, weights):
    """Return how many stalls at least a setting that meets weights has."""
    return size_of(weighted_answer(room, weights)[0])


def weighted_answer(room, weights):
    """Return a setting that meets weights with the fewest stalls, and a lot apart with as great a burden."""
    parts, knot = split_of(web_of_copies(room, weights))
    stalls = {}
    for part in parts:
        stall = common_stalls(room, spots_of(weights, part))[0]
        stalls[stall] = stalls.get(stall, 0) + 1
    return (tuple(sorted(stalls.items())), spots_of(weights, knot))


def web_of_copies(room, weights):
    """Return the web in which each spot stands as often as it weighs, two next if no one stall is to serve both.

    That is so of two copies of one spot, too. The member (k, n) is copy number n of spot
    number k of the weights.
    """
    masks = field_masks(room, cells_of(weights))
    members = tuple([(k, n) for k, (_, w) in enumerate(weights) for n in range(w)])
    ties = []
    for one, other in pairs_of(members):
        here, there = weights[one[0]][0], weights[other[0]][0]
        if here == there or masks[here] & masks[there] == 0:
            ties.append((one, other))
    return (members, tuple(ties))


def spots_of(weights, copies):
    """Return the lot of the spots of weights whose copies are told."""
    return lot_of([weights[k][0] for k, _ in copies])


def judge_weighted(room, weights, value):
    """Return None if any value is a setting and a lot apart as weighted_answer returns them, else its first fault."""
    if not is_pair(value):
        return ("form",)
    setting, lot = value
    fault = judge_setting(room, weights, setting)
    if fault is not None:
        return ("setting", fault)
    fault = judge_apart(room, weights, lot)
    if fault is not None:
        return ("lot", fault)
    more = size_of(setting) - burden(weights, lot)
    return ("sum", more) if more != 0 else None


def heaviest_with(room, weights, spot):
    """Return the greatest burden of a lot that is apart and has a spot of the room."""
    tied = table_of(tied_to(room, spot))
    apart = tuple([(cell, w) for cell, w in weights if cell not in tied])
    return weight_of(weights, spot) + fewest_for(room, apart)


def spare_of(room, weights, spot):
    """Return by how much a spot may weigh more without any stall more."""
    return fewest_for(room, weights) - heaviest_with(room, weights, spot)


def full_spots(room, weights):
    """Return the lot of the cells of a room without spare."""
    many = fewest_for(room, weights)
    return tuple([cell for cell in room if heaviest_with(room, weights, cell) == many])
