"""Webs by numbers: the near list of a web has for each member the mask of the members next to it.

Here members are told by their numbers, and lots of them by masks; the sequence of the
numbers is that of the members, so that what is first by numbers is first by members.
"""

from nodetour.masks import numbers_in


def near_list(web):
    """Return the near list of a web."""
    numbers = {member: k for k, member in enumerate(web[0])}
    near = [0] * len(numbers)
    for one, other in web[1]:
        near[numbers[one]] |= 1 << numbers[other]
        near[numbers[other]] |= 1 << numbers[one]
    return near


def near_joined(near, a, b):
    """Return the near list in which member b is put together with member a, and next to none."""
    changed = []
    for mask in near:
        if mask >> b & 1:
            mask = (mask & ~(1 << b)) | (1 << a)
        changed.append(mask)
    changed[a] |= changed[b]
    changed[b] = 0
    return changed


def reach(near, start, free, goal):
    """Return the mask of what hangs together with a start within free members.

    It may be less than all of it as soon as it has some member of the goal.
    """
    seen = fresh = 1 << start
    while fresh and not seen & goal:
        k = fresh.bit_length() - 1
        more = near[k] & free & ~seen
        seen |= more
        fresh = (fresh & ~(1 << k)) | more
    return seen


def hangs_together(near, a, b, free):
    """Return whether one can go by ties from a to b within free members."""
    return reach(near, a, free, 1 << b) >> b & 1 == 1


def are_near(near, a, b):
    """Return whether a and b are next to one another."""
    return near[a] >> b & 1 == 1


def are_two_pair(near, here, a, b):
    """Return whether a and b, of the members that are here, are a two-pair.

    Two that are next to one another hang together whatever is left out.
    """
    return not hangs_together(near, a, b, here & ~(near[a] & near[b]))


def least_two_pair(near, here):
    """Return the least two-pair of the members that are here, None if there is none."""
    numbers = numbers_in(here)
    for k, a in enumerate(numbers):
        for b in numbers[k + 1:]:
            if are_two_pair(near, here, a, b):
                return (a, b)
    return None


def least_pair_near(near, here, wanted):
    """Return the least pair of members that are here next to one another, or not so, as is wanted; None without one."""
    numbers = numbers_in(here)
    for k, a in enumerate(numbers):
        for b in numbers[k + 1:]:
            if are_near(near, a, b) == wanted:
                return (a, b)
    return None


def first_long_way(near, here, a, b):
    """Return the list of the first bare way of four or more from a to b, None if there is none.

    Each next member is the least one from which b can still be reached past all that are
    next to a member told; the shortest of the ways on from there is bare.
    """
    if are_near(near, a, b):
        return None
    way = [a]
    free = here & ~(near[a] & near[b])
    while way[-1] != b:
        last = way[-1]
        beyond = free & ~near[last] & ~(1 << last)
        nexts = [k for k in numbers_in(free & near[last]) if hangs_together(near, k, b, beyond)]
        if nexts == []:
            return None
        way.append(nexts[0])
        free = beyond
    return way


def first_long_round(near, here):
    """Return the list of the first bare round of five or more, None if there is none."""
    free = here
    for a in numbers_in(here):
        # No such round has a member that was looked at ahead, as it could begin with it.
        free &= ~(1 << a)
        for b in numbers_in(near[a] & free):
            found = round_from(near, free, [a, b])
            if found is not None:
                return found
    return None


def round_from(near, free, way):
    """Return the list of the first bare round of five or more that begins with a bare way; None without one.

    The members that may still be taken are free: not the way's own ones, but its last one,
    nor those next to its members, but to the first and the last one.
    """
    first, last = way[0], way[-1]
    beyond = free & ~near[last] & ~(1 << last)
    for k in numbers_in(free & near[last]):
        if not are_near(near, k, first):
            found = round_from(near, beyond, way + [k])
            if found is not None:
                return found
        elif len(way) >= 4:
            return way + [k]
    return None
