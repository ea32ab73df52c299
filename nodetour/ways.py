"""Ways without detour: judged, found, counted and compared, and the cells between."""

from nodetour.fields import field
from nodetour.rooms import shared, side_cells, table_of

MOVES = {"d": (0, -1), "l": (-1, 0), "r": (1, 0), "u": (0, 1)}
CONTRARY = {"d": "u", "l": "r", "r": "l", "u": "d"}


def trail(start, steps):
    """Return the tuple of the cells to which one comes, start the first one."""
    cells = [start]
    for step in steps:
        cells.append(behind(cells[-1], step))
    return tuple(cells)


def behind(cell, step):
    """Return the cell to which a step leads from a cell."""
    dx, dy = MOVES[step]
    return (cell[0] + dx, cell[1] + dy)


def judge_way(room, start, end, value):
    """Return None if any value is a way from start to end, else its first fault."""
    if not is_text_of_steps(value):
        return ("form",)
    for step in MOVES:
        if step in value and CONTRARY[step] in value:
            return ("contrary",)
    cells = trail(start, value)
    table = table_of(room)
    for i, cell in enumerate(cells[1:]):
        if cell not in table:
            return ("wall", i)
    if cells[-1] != end:
        return ("end", cells[-1])
    return None


def is_text_of_steps(value):
    """Return whether any value is a text of the signs of steps alone."""
    if not isinstance(value, str):
        return False
    for sign in value:
        if sign not in MOVES:
            return False
    return True


def is_way(room, start, end, value):
    """Return whether any value is a way from start to end."""
    return judge_way(room, start, end, value) is None


def first_way(room, start, end):
    """Return the least way from start to end, None if there is none."""
    many = counts_to(room, start, end)
    if start not in many:
        return None
    return way_by_counts(many, start, end, 0)


def last_way(room, start, end):
    """Return the greatest way from start to end, None if there is none."""
    many = counts_to(room, start, end)
    if start not in many:
        return None
    return way_by_counts(many, start, end, many[start] - 1)


def counts_to(room, start, end):
    """Return a dict with the number of ways to end from each cell from which one leads there.

    Only the cells of the box between start and end are looked at.
    """
    table = table_of(room)
    dx, dy = sign_of(end[0] - start[0]), sign_of(end[1] - start[1])
    many = {end: 1}
    for i in range(abs(end[0] - start[0]) + 1):
        for j in range(abs(end[1] - start[1]) + 1):
            x, y = end[0] - i * dx, end[1] - j * dy
            ways = many.get((x + dx, y), 0) + many.get((x, y + dy), 0)
            if i + j > 0 and ways > 0 and (x, y) in table:
                many[(x, y)] = ways
    return many


def sign_of(number):
    """Return -1, 0 or 1, as an integer is below 0, 0 or above it."""
    if number == 0:
        return 0
    return 1 if number > 0 else -1


def signs_between(start, end):
    """Return the list of the steps, ascending, that lead nearer from start to end."""
    differing = {"d": start[1] - end[1], "l": start[0] - end[0], "r": end[0] - start[0], "u": end[1] - start[1]}
    return [step for step in MOVES if differing[step] > 0]


def way_by_counts(many, start, end, n):
    """Return the way from start to end that has n less ones, from the counts of counts_to."""
    signs = signs_between(start, end)
    steps = []
    place = start
    while place != end:
        step, n = step_by_counts(many, place, signs, n)
        steps.append(step)
        place = behind(place, step)
    return "".join(steps)


def step_by_counts(many, place, signs, n):
    """Return the first step of the way from a place that has n less ones, and how many of these begin with it."""
    for step in signs[:-1]:
        ways = many.get(behind(place, step), 0)
        if n < ways:
            return (step, n)
        n -= ways
    return (signs[-1], n)


def serves(room, stall, spot):
    """Return whether there is a way from a stall to a spot."""
    return stall in counts_to(room, stall, spot)


def back_way(steps):
    """Return the way that leads from the end of a way to its start."""
    return "".join([CONTRARY[step] for step in reversed(steps)])


def ways_many(room, start, end):
    """Return how many ways there are from start to end."""
    return counts_to(room, start, end).get(start, 0)


def way_at(room, start, end, n):
    """Return the way from start to end that has n less ones, n from 0 on and less than their number."""
    return way_by_counts(counts_to(room, start, end), start, end, n)


def way_number(room, start, end, steps):
    """Return how many ways from start to end are less than this one."""
    many = counts_to(room, start, end)
    signs = signs_between(start, end)
    less = 0
    place = start
    for step in steps:
        for sign in signs:
            if sign < step:
                less += many.get(behind(place, sign), 0)
        place = behind(place, step)
    return less


def lower_of(one, other):
    """Return the way beneath two with the same ends: up to each sign as many of the lesser one as either has."""
    counts = [max(pair) for pair in zip(lesser_counts(one), lesser_counts(other))]
    return way_of_counts(one, counts)


def upper_of(one, other):
    """Return the way above two with the same ends: up to each sign as few of the lesser one as either has."""
    counts = [min(pair) for pair in zip(lesser_counts(one), lesser_counts(other))]
    return way_of_counts(one, counts)


def lesser_counts(steps):
    """Return the list that tells, up to each sign of a way, how often its lesser sign stands there."""
    lesser = min(steps, default="")
    return [steps[:n].count(lesser) for n in range(1, len(steps) + 1)]


def way_of_counts(steps, counts):
    """Return the text of the two signs of a way in which the lesser one stands so often up to each sign."""
    signs = []
    before = 0
    for many in counts:
        signs.append(min(steps) if many > before else max(steps))
        before = many
    return "".join(signs)


def cells_between(room, start, end):
    """Return the lot of all cells in some way from start to end."""
    to_end, to_start = counts_to(room, start, end), counts_to(room, end, start)
    return tuple([cell for cell in room if cell in to_end and cell in to_start])


def meeting_way(room, one, middle, other):
    """Return the pair of the first ways from one cell to the middle, and from there to the other, None without both."""
    there, further = first_way(room, one, middle), first_way(room, middle, other)
    if there is None or further is None:
        return None
    return (there, further)


def middles(room, one, other):
    """Return the lot of the common stalls of two cells."""
    return shared(field(room, one), field(room, other))


def shortest_steps(room, one, other):
    """Return the fewest steps from one cell of a room to the other, whatever steps."""
    table = table_of(room)
    many = {one: 0}
    waiting = [one]
    for k in range(len(room)):
        place = waiting[k]
        for side in side_cells(place):
            if side in table and side not in many:
                many[side] = many[place] + 1
                waiting.append(side)
    return many[other]


def detour_of(room, one, other):
    """Return by how much the fewest steps are more than the two x and the two y differ by."""
    straight = abs(one[0] - other[0]) + abs(one[1] - other[1])
    return shortest_steps(room, one, other) - straight
