"""Shapes of rooms with told numbers: bars, stairs, combs, and corridors, of these spirals and zigzags."""

from nodetour.rooms import counts, lot_of
from nodetour.ways import CONTRARY, is_text_of_steps, trail

ARMS = ("r", "u", "l", "d")


def bar(m, n):
    """Return the room of m cells to the right by n cells upwards."""
    return tuple([(x, y) for x in range(m) for y in range(n)])


def stairs(k):
    """Return the room of k stairs, each of two cells side by side."""
    return lot_of([(j, j) for j in range(k)] + [(j + 1, j) for j in range(k)])


def comb(k, h):
    """Return the room of a row with k teeth, h cells high, on each second of its cells."""
    row = [(x, 0) for x in range(2 * k - 1)]
    return lot_of(row + [(2 * j, y) for j in range(k) for y in range(h + 1)])


def corridor_cells(steps):
    """Return the trail of a text of steps from (0, 0) on."""
    return trail((0, 0), steps)


def is_corridor(value):
    """Return whether any value is a corridor: a text of steps whose trail nowhere touches itself."""
    if not is_text_of_steps(value):
        return False
    cells, pairs, _ = counts(corridor(value))
    return (cells, pairs) == (len(value) + 1, len(value))


def corridor(steps):
    """Return the room of a corridor."""
    return lot_of(corridor_cells(steps))


def corridor_stretch(steps, i):
    """Return the numbers of the first and the last cell of the trail of a corridor that cell number i serves."""
    return (i - straight_many(steps[:i][::-1]), i + straight_many(steps[i:]))


def straight_many(steps):
    """Return how many steps the longest beginning of a text of steps without two contrary ones has."""
    for k, step in enumerate(steps):
        if CONTRARY[step] in steps[:k]:
            return k
    return len(steps)


def corridor_stalls(steps):
    """Return the ascending tuple of the numbers of the stalls that are taken one behind another in a corridor."""
    return tuple([stall for _, stall in spots_with_stalls(steps)])


def corridor_spots(steps):
    """Return the ascending tuple of the numbers of the spots for which these stalls are taken."""
    return tuple([spot for spot, _ in spots_with_stalls(steps)])


def spots_with_stalls(steps):
    """Return the list of the pairs of the least spot not served yet and the last cell that serves it, till all are."""
    found = []
    spot = 0
    while spot <= len(steps):
        stall = corridor_stretch(steps, spot)[1]
        found.append((spot, stall))
        spot = corridor_stretch(steps, stall)[1] + 1
    return found


def spiral(k):
    """Return the corridor of k arms that turn to the left, each two of them longer than those ahead."""
    return "".join([ARMS[j % 4] * (2 * (j // 2 + 1)) for j in range(k)])


def zigzag(k):
    """Return the corridor of k arms to the right and to the left by turns, with two steps up between."""
    return "uu".join([ARMS[j % 2 * 2] * 2 for j in range(k)])


def spiral_room(k):
    """Return the room of a spiral."""
    return corridor(spiral(k))


def zigzag_room(k):
    """Return the room of a zigzag."""
    return corridor(zigzag(k))


ROOMS = {"bar": bar, "stairs": stairs, "comb": comb, "spiral": spiral_room, "zigzag": zigzag_room}
# A stall serves so many arms of a corridor; all else needs just one stall.
ARMS_OF_A_STALL = {"spiral": 4, "zigzag": 2}


def told_number(word, numbers):
    """Return the number of a shape, its word and its numbers told."""
    if word not in ARMS_OF_A_STALL:
        return 1
    arms = ARMS_OF_A_STALL[word]
    return (numbers[0] + arms - 1) // arms


def shape_room(word, numbers):
    """Return the room of a shape, its word and its numbers told."""
    made = ROOMS[word]
    return made(*numbers)
