"""Webs of spots: parts and pieces, bare ways and rounds, two-pairs and their papers."""

from nodetour.fields import field_masks
from nodetour.kinds import ascends, is_lot_in, is_pair, ordered, pairs_of
from nodetour.masks import all_of, chosen, mask_of, numbers_in
from nodetour.nets import are_two_pair, first_long_round, first_long_way, least_pair_near, least_two_pair, near_list
from nodetour.nets import reach
from nodetour.rooms import is_cell, is_lot, lot_of, shared, table_of, taken_out, united


def is_web(value):
    """Return whether any value is a web."""
    if not is_pair(value) or not is_lot(value[0]) or not isinstance(value[1], tuple):
        return False
    members = table_of(value[0])
    for tie in value[1]:
        if not is_lot(tie) or len(tie) != 2 or tie[0] not in members or tie[1] not in members:
            return False
    return ascends(value[1])


def web_of(room, lot):
    """Return the web of the spots of a lot in which the tied ones are next to one another."""
    masks = field_masks(room, lot)
    return (lot, tuple([(one, other) for one, other in pairs_of(lot) if masks[one] & masks[other] != 0]))


def contrary(web):
    """Return the web in which just those are next to one another that are not so in this one."""
    ties = table_of(web[1])
    return (web[0], tuple([pair for pair in pairs_of(web[0]) if pair not in ties]))


def neighbours(web, a):
    """Return the tuple of the members next to a."""
    return chosen(web[0], near_list(web)[web[0].index(a)])


def are_next(web, a, b):
    """Return whether a and b are next to one another."""
    return ordered(a, b) in web[1]


def web_part(web, some):
    """Return the web of some of the members, with all ties between them."""
    wanted = table_of(some)
    return (some, tuple([(one, other) for one, other in web[1] if one in wanted and other in wanted]))


def is_bare_way(web, value):
    """Return whether any value is a bare way of a web."""
    if not are_unlike_members(web, value) or value == ():
        return False
    return ties_by_place(web, value) == [(k - 1, k) for k in range(1, len(value))]


def is_bare_round(web, value):
    """Return whether any value is a bare round of a web."""
    if not are_unlike_members(web, value) or len(value) < 3:
        return False
    last = len(value) - 1
    return ties_by_place(web, value) == sorted([(0, last)] + [(k - 1, k) for k in range(1, len(value))])


def are_unlike_members(web, value):
    """Return whether any value is a tuple of unlike members, in any sequence."""
    if not isinstance(value, tuple):
        return False
    members = table_of(web[0])
    for member in value:
        if not is_cell(member) or member not in members:
            return False
    return len(lot_of(value)) == len(value)


def ties_by_place(web, told):
    """Return the ascending list of the pairs of places of a tuple of members that are next to one another."""
    places = {member: k for k, member in enumerate(told)}
    return sorted([ordered(places[one], places[other]) for one, other in web_part(web, told)[1]])


def long_way(web, a, b):
    """Return the first of the bare ways from a to b with four members or more, None if there is none."""
    members = web[0]
    way = first_long_way(near_list(web), all_of(members), members.index(a), members.index(b))
    return None if way is None else tuple([members[k] for k in way])


def long_round(web):
    """Return the first of the bare rounds with five members or more, None if there is none."""
    found = first_long_round(near_list(web), all_of(web[0]))
    return None if found is None else tuple([web[0][k] for k in found])


def is_plain(web):
    """Return whether neither a web nor its contrary has a bare round of five members or more."""
    return long_round(web) is None and long_round(contrary(web)) is None


def common_ones(web, a, b):
    """Return the tuple of the members next to both a and b."""
    return shared(neighbours(web, a), neighbours(web, b))


def pieces_without(web, gone):
    """Return the ascending tuple of the pieces into which a web falls without some members."""
    near = near_list(web)
    left = all_of(web[0]) & ~mask_of(web[0], gone)
    parts = []
    while left:
        part = reach(near, numbers_in(left)[0], left, 0)
        parts.append(chosen(web[0], part))
        left &= ~part
    return tuple(parts)


def is_two_pair(web, a, b):
    """Return whether a and b are a two-pair."""
    members = web[0]
    return are_two_pair(near_list(web), all_of(members), members.index(a), members.index(b))


def first_two_pair(web):
    """Return the least two-pair, None if there is none."""
    pair = least_two_pair(near_list(web), all_of(web[0]))
    return None if pair is None else (web[0][pair[0]], web[0][pair[1]])


def two_pair_paper(web, a, b):
    """Return the paper of a two-pair: their common ones, and the piece of a without them."""
    commons = common_ones(web, a, b)
    piece = [part for part in pieces_without(web, commons) if a in part][0]
    return (commons, piece)


def judge_two_pair(web, a, b, value):
    """Return None if any value shows that a and b are a two-pair, else its first fault."""
    if not is_pair(value) or not is_lot_in(value[0], web[0]) or not is_lot_in(value[1], web[0]):
        return ("form",)
    commons, piece = value
    if are_next(web, a, b):
        return ("next",)
    if commons != common_ones(web, a, b):
        return ("commons",)
    if a not in piece or b in piece or shared(piece, commons):
        return ("ends",)
    out = taken_out(next_to_some(web, piece), united(piece, commons))
    return ("out", out[0]) if out else None


def next_to_some(web, some):
    """Return the tuple of the members next to one or more of some members."""
    table = table_of(some)
    found = [one for one, other in web[1] if other in table] + [other for one, other in web[1] if one in table]
    return lot_of(found)


def like_ones(web):
    """Return the ascending tuple of the greatest lots of members with the same ones next to them but one another."""
    members, near = web[0], near_list(web)
    lots = []
    seen = 0
    for a in range(len(members)):
        like = [b for b in range(a + 1, len(members)) if are_like(near, a, b)]
        if like and not seen >> a & 1:
            lots.append(tuple([members[k] for k in [a] + like]))
            seen |= sum([1 << b for b in like])
    return tuple(lots)


def are_like(near, a, b):
    """Return whether members number a and b have the same members next to them but one another."""
    return near[a] & ~(1 << b) == near[b] & ~(1 << a)


def alone(web):
    """Return the tuple of the members next to none."""
    return tuple([member for member, mask in zip(web[0], near_list(web)) if mask == 0])


def all_next(web):
    """Return whether all members are next to all."""
    return least_pair_near(near_list(web), all_of(web[0]), False) is None
