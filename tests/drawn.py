"""Rooms, webs and values that are drawn, the same at each call."""

import functools
import random

from nodetour.rooms import is_room
from tests.support import lots_within

SIDES = ((1, 0), (0, 1), (-1, 0), (0, -1))


@functools.cache
def small_rooms(width, height):
    """Return the tuple of all rooms within a box of this size."""
    return tuple(lot for lot in lots_within(width, height) if is_room(lot))


def may_be_added(cells, cell):
    """Return whether a room stays one with a cell more: what is white around it hangs together, and is some."""
    x, y = cell
    ring = [(x + 1, y), (x + 1, y + 1), (x, y + 1), (x - 1, y + 1),
            (x - 1, y), (x - 1, y - 1), (x, y - 1), (x + 1, y - 1)]
    inside = [place in cells for place in ring]
    # Corners alone do not tie a cell to the room: only changes between sides count.
    changes = 0
    sides = [k for k in (0, 2, 4, 6) if inside[k]]
    for here, there in zip(sides, sides[1:] + sides[:1]):
        between = [inside[(here + step) % 8] for step in range(1, (there - here) % 8 or 8)]
        changes += not all(between)
    return bool(sides) and changes <= 1 and not all(inside)


def drawn_room(chance, size, box, winding):
    """Return a room of up to so many cells within a box, the more like corridors the more it is winding (0 to 100)."""
    cells = {(chance.randrange(box), chance.randrange(box))}
    for _ in range(40 * size):
        if len(cells) == size:
            break
        x, y = chance.choice(sorted(cells))
        dx, dy = chance.choice(SIDES)
        cell = (x + dx, y + dy)
        if cell in cells or not (0 <= cell[0] < box and 0 <= cell[1] < box) or not may_be_added(cells, cell):
            continue
        beside = sum((cell[0] + u, cell[1] + v) in cells for u, v in SIDES)
        if beside > 1 and chance.randrange(100) < winding:
            continue
        cells.add(cell)
    return tuple(sorted(cells))


def maze_room(chance, size, box):
    """Return a room of up to so many cells, a maze: corridors of two steps each between crossings."""
    crossings = [(0, 0)]
    cells = {(0, 0)}
    for _ in range(20 * size):
        if len(cells) > size - 2:
            break
        # For the most part the last one, so that there are long ones.
        x, y = crossings[-1] if chance.randrange(3) else chance.choice(crossings)
        dx, dy = chance.choice(SIDES)
        cell = (x + 2 * dx, y + 2 * dy)
        if cell not in cells and 0 <= cell[0] < box and 0 <= cell[1] < box:
            crossings.append(cell)
            cells |= {(x + dx, y + dy), cell}
    return tuple(sorted(cells))


@functools.cache
def drawn_rooms(many, size):
    """Return a tuple of rooms of up to so many cells, blocks and mazes and all between."""
    chance = random.Random(size * 1000 + many)
    rooms = []
    for k in range(many):
        wanted = chance.randrange(1 + size // 2, size + 1)
        side = 1 + round(wanted ** 0.5)
        if k % 2 == 0:
            rooms.append(maze_room(chance, wanted, side + chance.randrange(1 + side)))
        else:
            rooms.append(drawn_room(chance, wanted, side + chance.randrange(5), chance.choice((0, 60, 90, 100))))
    return tuple(rooms)


def some_of(chance, lot, many):
    """Return a lot of up to so many cells of a lot."""
    return tuple(sorted(chance.sample(lot, min(len(lot), many))))


def drawn_web(chance, size, share):
    """Return a web of so many members in which of a hundred pairs as many as told are next."""
    places = [(x, y) for x in range(-3, 5) for y in range(-3, 5)]
    members = tuple(sorted(chance.sample(places, size)))
    ties = tuple((one, other) for k, one in enumerate(members) for other in members[k + 1:]
                 if chance.randrange(100) < share)
    return (members, ties)


@functools.cache
def drawn_webs(many, size):
    """Return a tuple of webs of up to so many members, with few ties and with many."""
    chance = random.Random(size)
    return tuple(drawn_web(chance, chance.randrange(size + 1), chance.choice((0, 20, 40, 50, 60, 80, 100)))
                 for _ in range(many))


@functools.cache
def all_webs(size):
    """Return the tuple of all webs with the members (0, 0), (1, 0) and so on."""
    members = tuple((x, 0) for x in range(size))
    pairs = [(one, other) for k, one in enumerate(members) for other in members[k + 1:]]
    return tuple((members, tuple(pair for n, pair in enumerate(pairs) if bits >> n & 1))
                 for bits in range(2 ** len(pairs)))


def of_other_kinds(value):
    """Yield the values like this one with one tuple as a list, or one 0 or 1 as False or True."""
    if isinstance(value, tuple):
        yield list(value)
        for k, part in enumerate(value):
            for other in of_other_kinds(part):
                yield value[:k] + (other,) + value[k + 1:]
    elif value in (0, 1):
        yield bool(value)


def altered(chance, value):
    """Return a value like this one with a part left out, doubled, exchanged, replaced, or with the other sign."""
    if isinstance(value, int):
        return chance.choice((-value, value + 1, value - 1))
    if isinstance(value, str):
        k = chance.randrange(len(value) + 1)
        return value[:k] + chance.choice(("", "r", "u", "l", "d", "x")) + value[k + 1:]
    if not isinstance(value, tuple) or not value:
        return chance.choice(((), (0, 0), ((0, 0),), None))
    k, n = chance.randrange(len(value)), chance.randrange(len(value))
    way = chance.randrange(6)
    if way == 0:
        return value[:k] + value[k + 1:]
    if way == 1:
        return value[:k] + (value[k],) + value[k:]
    if way == 2:
        parts = list(value)
        parts[k], parts[n] = parts[n], parts[k]
        return tuple(parts)
    return value[:k] + (altered(chance, value[k]),) + value[k + 1:]
