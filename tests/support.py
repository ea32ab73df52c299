"""Values and lots that several tests go over."""

import itertools
import random

HOOK = ((0, 0), (0, 1), (1, 0))
RING = ((0, 0), (0, 1), (0, 2), (1, 0), (1, 2), (2, 0), (2, 1), (2, 2))
SIGNS = "".join(chr(n) for n in range(32, 127)) + "\t\n"
BIG = 10 ** 60 - 1


def nested(value, depth, kind):
    """Return a value within as many tuples, lists or dicts."""
    for _ in range(depth):
        value = {"k": value} if kind is dict else kind([value])
    return value


def some_value(chance, depth):
    """Return a value as [0.3] tells, at most depth within one another."""
    kind = chance.randrange(12 if depth else 7)
    if kind == 0:
        return chance.choice((None, True, False))
    if kind == 1:
        return "".join(chance.choice(SIGNS) for _ in range(chance.randrange(8)))
    if kind == 2:
        return chance.choice((BIG, -BIG, 0, -1))
    if kind < 7:
        return chance.randrange(-2, 3)
    inner = [some_value(chance, depth - 1) for _ in range(chance.randrange(4))]
    if kind < 10:
        return tuple(inner)
    if kind == 10:
        return inner
    keys = (None, True, "a", 7, (1, 2), (0, (1, "b")))
    return {chance.choice(keys): part for part in inner}


def some_values():
    """Return a long list of values of all kinds, the same at each call."""
    chance = random.Random(1)
    told = [None, True, False, 0, 1, -1, BIG, -BIG, "", "a", "\n", "\t", " " * 200, (), [], {}, {1: 2}, ((),), [()],
            ({},), (None, None), "xy", ("x", "y"), [0, 0], ([0, 0],), [(0, 0)], {(0, 0): True}]
    for depth in (1, 2, 39, 40):
        for kind in (tuple, list, dict):
            told.append(nested((0, 0), depth - 1, kind))
    return told + [some_value(chance, 1 + k % 5) for k in range(3000)]


def lots_within(width, height):
    """Yield all lots within a box of this size, () too."""
    cells = [(x, y) for x in range(width) for y in range(height)]
    for chosen in itertools.product((False, True), repeat=len(cells)):
        yield tuple(cell for cell, wanted in zip(cells, chosen) if wanted)


def some_lots(many, size):
    """Return a list of lots in boxes up to this size, thin and thick ones, some below 0, the same at each call."""
    chance = random.Random(2)
    lots = []
    for _ in range(many):
        x0, y0 = chance.randrange(-size, 3), chance.randrange(-size, 3)
        width, height = chance.randrange(1, size + 1), chance.randrange(1, size + 1)
        thick = chance.choice((20, 50, 80, 95))
        lots.append(tuple((x0 + x, y0 + y) for x in range(width) for y in range(height)
                          if chance.randrange(100) < thick))
    return lots
