"""Joining two-pairs of a web one behind another: logs, groups, knots, and splits of both."""

from nodetour.kinds import is_lot_in, is_lots_in, is_pair, ordered, pairs_of
from nodetour.masks import all_of, numbers_in
from nodetour.nets import are_near, are_two_pair, first_long_way, least_pair_near, least_two_pair
from nodetour.nets import near_joined, near_list
from nodetour.rooms import is_lot, taken_out
from nodetour.webs import all_next, are_next, two_pair_paper, web_part


def joined(web, a, b):
    """Return the web in which a and b, not next to one another, are put together as one member, named a."""
    ties = []
    for one, other in web[1]:
        ties.append(ordered(a if one == b else one, a if other == b else other))
    return (taken_out(web[0], (b,)), tuple(sorted(set(ties))))


def web_behind(web, log):
    """Return the web behind all joinings of a log."""
    for a, b in log:
        web = joined(web, a, b)
    return web


def groups(web, log):
    """Return the ascending tuple of the groups of members that are put together by a log."""
    together = {member: [member] for member in web[0]}
    for a, b in log:
        members = together.pop(b)
        together[a].extend(members)
    return tuple(sorted([tuple(sorted(members)) for members in together.values()]))


def log_of(web):
    """Return the log of the joinings of the least two-pair, each time, till there is none."""
    members, near, here = web[0], near_list(web), all_of(web[0])
    log = []
    pair = least_two_pair(near, here)
    while pair is not None:
        a, b = pair
        log.append((members[a], members[b]))
        near, here = near_joined(near, a, b), here & ~(1 << b)
        pair = least_two_pair(near, here)
    return tuple(log)


def is_spent(web, log):
    """Return whether all are next to all behind a log."""
    return all_next(web_behind(web, log))


def knot_back(web, log):
    """Return the knot that comes from that of the web behind a log, read back joining by joining."""
    members = web[0]
    numbers = {member: k for k, member in enumerate(members)}
    nears = [near_list(web)]
    for a, b in log:
        nears.append(near_joined(nears[-1], numbers[a], numbers[b]))
    knot = [numbers[member] for member in greatest_knot(web_behind(web, log))]
    for k in reversed(range(len(log))):
        a, b = log[k]
        knot = knot_ahead(nears[k], knot, numbers[a], numbers[b])
    return tuple(sorted([members[k] for k in knot]))


def knot_ahead(near, knot, a, b):
    """Return the knot ahead of the joining of a and b, from that behind it."""
    if a not in knot:
        return knot
    others = [k for k in knot if k != a]
    for k in others:
        if not are_near(near, a, k):
            return others + [b]
    return knot


def judge_log(web, value):
    """Return None if any value is a log of two-pairs behind which all are next to all, else its first fault."""
    if not is_tuple_of_joinings(value):
        return ("form",)
    members = web[0]
    numbers = {member: k for k, member in enumerate(members)}
    near, here = near_list(web), all_of(members)
    for k, (one, other) in enumerate(value):
        a, b = numbers.get(one, -1), numbers.get(other, -1)
        if not are_apart_here(near, here, a, b):
            return ("pair", k)
        if not are_two_pair(near, here, a, b):
            return ("long", k, tuple([members[n] for n in first_long_way(near, here, a, b)]))
        near, here = near_joined(near, a, b), here & ~(1 << b)
    rest = least_pair_near(near, here, False)
    return None if rest is None else ("rest", (members[rest[0]], members[rest[1]]))


def is_tuple_of_joinings(value):
    """Return whether any value is a tuple of pairs of cells, the first less than the second."""
    if not isinstance(value, tuple):
        return False
    for pair in value:
        if not is_lot(pair) or len(pair) != 2:
            return False
    return True


def are_apart_here(near, here, a, b):
    """Return whether two numbers are those of members that are here, not next to one another; -1 is of none."""
    if a < 0 or b < 0:
        return False
    return (here >> a) & (here >> b) & 1 == 1 and not are_near(near, a, b)


def log_papers(web, log):
    """Return the tuple of the papers of the joinings of a log, each at its web."""
    papers = []
    for a, b in log:
        papers.append(two_pair_paper(web, a, b))
        web = joined(web, a, b)
    return tuple(papers)


def split_of(web):
    """Return the pair of the groups and the knot of the web's own log."""
    log = log_of(web)
    return (groups(web, log), knot_back(web, log))


def judge_split(web, value):
    """Return None if any value is a split of a web into groups, and a knot of as many members; else its first fault."""
    if not is_pair(value) or not is_lots_in(value[0], web[0]) or not is_lot_in(value[1], web[0]):
        return ("form",)
    parts, knot = value
    for member in web[0]:
        if len([part for part in parts if member in part]) != 1:
            return ("member", member)
    ties = [tie for part in parts for tie in web_part(web, part)[1]]
    if ties:
        return ("group",) + min(ties)
    for one, other in pairs_of(knot):
        if not are_next(web, one, other):
            return ("knot", one, other)
    if len(parts) != len(knot):
        return ("many", len(parts), len(knot))
    return None


def stuck_web(web):
    """Return the web behind the web's own log if not all are next to all there, else None."""
    behind = web_behind(web, log_of(web))
    return None if all_next(behind) else behind


def least_groups(web):
    """Return the number of the fewest lots of members, no two of one next to one another, that have all members."""
    near = near_list(web)
    many = 0
    while not can_be_grouped(near, 0, [], many):
        many += 1
    return many


def can_be_grouped(near, k, parts, many):
    """Return whether the members from number k on can be put to these parts, masks, and new ones, so many in all."""
    if k == len(near):
        return True
    for n, part in enumerate(parts):
        if not part & near[k] and can_be_grouped(near, k + 1, parts[:n] + [part | 1 << k] + parts[n + 1:], many):
            return True
    return len(parts) < many and can_be_grouped(near, k + 1, parts + [1 << k], many)


def greatest_knot(web):
    """Return the first of the lots of members all next to one another that have the most."""
    best = greater_knot(near_list(web), [], all_of(web[0]), [])
    return tuple([web[0][k] for k in best])


def greater_knot(near, knot, free, best):
    """Return the first of the greatest knots that go on from this one by free members, best if none has more."""
    if len(knot) > len(best):
        best = knot
    later = free
    for k in numbers_in(free):
        later &= ~(1 << k)
        if len(knot) + 1 + len(numbers_in(later & near[k])) > len(best):
            best = greater_knot(near, knot + [k], later & near[k], best)
    return best
