"""Plain reckonings of ways, fields and webs by trying, that share nothing with the package."""

import functools
import itertools

DELTAS = {"r": (1, 0), "l": (-1, 0), "u": (0, 1), "d": (0, -1)}
OPPOSITE = {"r": "l", "l": "r", "u": "d", "d": "u"}


def after(cell, sign):
    return (cell[0] + DELTAS[sign][0], cell[1] + DELTAS[sign][1])


@functools.cache
def ways_from(room, start):
    """Return a dict with the ascending list of all ways to each cell that has one: each step is tried at each place."""
    found = {}
    waiting = [(start, "")]
    while waiting:
        cell, text = waiting.pop()
        found.setdefault(cell, []).append(text)
        for sign in "rlud":
            if OPPOSITE[sign] not in text and after(cell, sign) in room:
                waiting.append((after(cell, sign), text + sign))
    return {cell: sorted(texts) for cell, texts in found.items()}


@functools.cache
def served(room, start):
    """Return the set of the cells to which one comes, by a walk over the states (cell, signs used)."""
    cells = frozenset(room)
    states = {(start, "")}
    waiting = list(states)
    while waiting:
        cell, used = waiting.pop()
        for sign in "rlud":
            state = (after(cell, sign), "".join(sorted(set(used + sign))))
            if OPPOSITE[sign] not in used and state[0] in cells and state not in states:
                states.add(state)
                waiting.append(state)
    return frozenset(cell for cell, used in states)


@functools.cache
def distances(room):
    """Return a dict with the fewest steps for each pair of cells, by pairs put together again and again."""
    far = {(one, other): 10 ** 6 for one in room for other in room}
    for one in room:
        far[one, one] = 0
        for sign in "rlud":
            if after(one, sign) in room:
                far[one, after(one, sign)] = 1
    for middle in room:
        for one in room:
            for other in room:
                far[one, other] = min(far[one, other], far[one, middle] + far[middle, other])
    return far


def common(room, lot):
    """Return the lot of the cells that serve all of a lot."""
    return tuple(cell for cell in room if set(lot) <= served(room, cell))


@functools.cache
def tied(room, one, other):
    return any({one, other} <= served(room, cell) for cell in room)


def harder(room, one, other):
    """Return whether all that serve one serve the other, too, and not the other way round."""
    here = {cell for cell in room if one in served(room, cell)}
    there = {cell for cell in room if other in served(room, cell)}
    return here < there


def hard(room, lot):
    """Return the spots of a lot than which none of it is harder, of like ones the least."""
    kept = [spot for spot in lot if not any(harder(room, other, spot) for other in lot)]
    return tuple(spot for spot in kept
                 if not any(other < spot and served(room, other) == served(room, spot) for other in kept))


def pair_set(web):
    """Return the set of the ties of a web, both ways round."""
    return set(web[1]) | {(b, a) for a, b in web[1]}


def is_bare(web, told, is_round):
    """Return whether told is a bare way or round: each pair of places is looked at."""
    near = pair_set(web)
    many = len(told)
    if len(set(told)) < many or many < (3 if is_round else 1) or not set(told) <= set(web[0]):
        return False
    for i in range(many):
        for j in range(many):
            beside = abs(i - j) == 1 or (is_round and abs(i - j) == many - 1)
            if i != j and ((told[i], told[j]) in near) != beside:
                return False
    return True


def bare_ways(web, least):
    """Return the ascending list of all bare ways of so many members or more."""
    return [told for many in range(least, len(web[0]) + 1) for told in itertools.permutations(web[0], many)
            if is_bare(web, told, False)]


def bare_rounds(web, least):
    """Return the list of all bare rounds of so many members or more."""
    return [told for many in range(least, len(web[0]) + 1) for told in itertools.permutations(web[0], many)
            if is_bare(web, told, True)]


def near_sets(web):
    """Return a dict with the set of the members next to each member."""
    near = {member: set() for member in web[0]}
    for one, other in web[1]:
        near[one].add(other)
        near[other].add(one)
    return near


def walk(start, near):
    """Return the tuple of the members from start on, the least unseen one beside the last each time."""
    told = [start]
    while True:
        nexts = sorted(near[told[-1]] - set(told))
        if not nexts:
            return tuple(told)
        told.append(nexts[0])


def rounds_by_lots(web, least):
    """Return the ascending list of the bare rounds of so many or more, each once, in its first form.

    Of a bare round each member has just two others beside it, and a walk comes to all.
    """
    near, found = near_sets(web), []
    for many in range(max(3, least), len(web[0]) + 1):
        for lot in itertools.combinations(web[0], many):
            within = {member: near[member] & set(lot) for member in lot}
            if all(len(beside) == 2 for beside in within.values()) and len(walk(lot[0], within)) == many:
                found.append(walk(lot[0], within))
    return sorted(found)


def ways_by_lots(web, a, b, least):
    """Return the ascending list of the bare ways from a to b of so many members or more."""
    near, found = near_sets(web), []
    others = [member for member in web[0] if member not in (a, b)]
    for many in range(max(0, least - 2), len(others) + 1):
        for between in itertools.combinations(others, many):
            within = {member: near[member] & set(between + (a, b)) for member in between + (a, b)}
            ends = len(within[a]) == len(within[b]) == 1
            if ends and all(len(within[member]) == 2 for member in between) and len(walk(a, within)) == many + 2:
                found.append(walk(a, within))
    return sorted(found)


def parts_without(web, gone):
    """Return the ascending tuple of the pieces without some members: labels are lowered till all stay."""
    label = {member: member for member in web[0] if member not in gone}
    near = pair_set(web)
    going = True
    while going:
        going = False
        for one in label:
            for other in label:
                if (one, other) in near and label[other] < label[one]:
                    label[one] = label[other]
                    going = True
    return tuple(sorted(tuple(sorted(m for m in label if label[m] == name)) for name in set(label.values())))


def are_two_pair(web, a, b):
    """Return whether a and b are not next, and each bare way from a to b has three members."""
    if (a, b) in pair_set(web):
        return False
    others = [member for member in web[0] if member not in (a, b)]
    return not any(is_bare(web, (a,) + between + (b,), False)
                   for many in range(2, len(others) + 1) for between in itertools.permutations(others, many))


def put_together(web, a, b):
    """Return the web in which a and b are one member, named a."""
    names = {member: a if member == b else member for member in web[0]}
    near = {(names[one], names[other]) for one, other in pair_set(web)}
    members = tuple(sorted(set(names.values())))
    return (members, tuple(sorted((one, other) for one, other in near if one < other)))


def is_knot(web, lot):
    near = pair_set(web)
    return all((one, other) in near for one, other in itertools.combinations(lot, 2))


def greatest_knots(web):
    """Return the ascending list of the greatest lots of members all next to one another."""
    for many in reversed(range(len(web[0]) + 1)):
        found = [lot for lot in itertools.combinations(web[0], many) if is_knot(web, lot)]
        if found:
            return found


def fewest_groups(web):
    """Return the fewest lots without ties that have all members: all ways to number them are tried."""
    for many in range(len(web[0]) + 1):
        for told in itertools.product(range(many), repeat=len(web[0])):
            number = dict(zip(web[0], told))
            if all(number[one] != number[other] for one, other in web[1]):
                return many
    return 0


def other_web(web):
    """Return the web in which just those are next that are not so in this one."""
    near = pair_set(web)
    return (web[0], tuple(pair for pair in itertools.combinations(web[0], 2) if pair not in near))


def is_plain(web):
    """Return whether neither web nor its contrary has a bare round of five or more."""
    return not rounds_by_lots(web, 5) and not rounds_by_lots(other_web(web), 5)


def web_of_spots(room, lot):
    """Return the web of a lot of spots by what serves whom."""
    return (lot, tuple(pair for pair in itertools.combinations(lot, 2)
                       if served(room, pair[0]) & served(room, pair[1])))


def serve(room, stalls, lot):
    """Return whether each spot of a lot is served by some stall."""
    return all(any(spot in served(room, stall) for stall in stalls) for spot in lot)


def fewest_stalls(room, lot):
    """Return the fewest stalls that serve a lot: all lots of cells of the room are tried."""
    for many in range(len(room) + 1):
        if any(serve(room, stalls, lot) for stalls in itertools.combinations(room, many)):
            return many


def first_tied(room, lot):
    """Return the least pair of a lot that some stall serves both, None without one."""
    pairs = [pair for pair in itertools.combinations(sorted(lot), 2) if tied(room, *pair)]
    return min(pairs, default=None)


def lots_apart(room, lot):
    """Return the list of all lots of spots of a lot, () too, each two of them apart."""
    found = [()]
    for told in found:
        for spot in lot:
            if (not told or spot > told[-1]) and not any(tied(room, spot, other) for other in told):
                found.append(told + (spot,))
    return found


def most_apart(room, lot):
    """Return the most spots of a lot each two of which are apart."""
    return max(map(len, lots_apart(room, lot)))


def all_dealings(room, lot):
    """Return the list of all dealings of a lot: each spot is put to each lot of those ahead, and to a new one."""
    found = [[]]
    for spot in lot:
        found = [dealing[:k] + [dealing[k] + (spot,)] + dealing[k + 1:] if k < len(dealing) else dealing + [(spot,)]
                 for dealing in found for k in range(len(dealing) + 1)
                 if k == len(dealing) or not any(tied(room, spot, other) for other in dealing[k])]
    return [tuple(sorted(dealing)) for dealing in found]


def fewest_of_setting(room, weights):
    """Return the fewest stalls, cells in a row and one more than once, that serve each spot as often as it weighs."""
    for many in range(sum(w for spot, w in weights) + 1):
        for stalls in itertools.combinations_with_replacement(room, many):
            if all(sum(spot in served(room, stall) for stall in stalls) >= w for spot, w in weights):
                return many


def greatest_burden(room, weights, spots):
    """Return the greatest sum of weights of a lot apart of these spots."""
    told = dict(weights)
    return max(sum(told.get(spot, 0) for spot in lot) for lot in lots_apart(room, spots))
