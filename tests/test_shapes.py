"""Part 11, [11.1] to [11.3] and [11.6]: shapes with told numbers, corridors."""

import itertools
import random
import unittest

from nodetour import shapes, stalls
from nodetour.rooms import is_room
from tests import reckon, tries
from tests.drawn import of_other_kinds
from tests.support import some_values


def cells_of(steps):
    """Return the list of the cells of a text of steps, one behind another."""
    cells = [(0, 0)]
    for step in steps:
        cells.append(reckon.after(cells[-1], step))
    return cells


def is_corridor(steps):
    """Return whether a text of steps is a corridor: all pairs of cells are looked at."""
    cells = cells_of(steps)
    for i, (x, y) in enumerate(cells):
        for j, (u, v) in enumerate(cells[:i]):
            if abs(x - u) + abs(y - v) <= 1 and (i - j > 1 or (x, y) == (u, v)):
                return False
    return True


def drawn_corridor(chance, longest):
    """Return a corridor of up to so many steps: it goes on with arms of some steps as long as it can."""
    steps = ""
    for _ in range(3 * longest):
        more = steps + chance.choice("rlud") * chance.choice((1, 2, 2, 3))
        if len(more) <= longest and is_corridor(more):
            steps = more
    return steps


CHANCE = random.Random(111)
SHORT = [steps for many in range(6) for steps in map("".join, itertools.product("rlud", repeat=many))
         if is_corridor(steps)]
CORRIDORS = SHORT[::3] + [drawn_corridor(CHANCE, CHANCE.randrange(6, 60)) for _ in range(150)]
LONG = [drawn_corridor(CHANCE, 100) for _ in range(40)]


class Shapes(unittest.TestCase):
    def test_cells(self):
        box = [(x, y) for x in range(-2, 25) for y in range(-2, 25)]
        for m in (1, 2, 3, 10):
            for n in (1, 2, 5, 10):
                self.assertEqual(shapes.bar(m, n), tuple((x, y) for x, y in box if 0 <= x < m and 0 <= y < n))
        for k in (1, 2, 3, 10, 20):
            told = tuple((x, y) for x, y in box if x - y in (0, 1) and 0 <= y < k)
            self.assertEqual(shapes.stairs(k), told)
        for k in (1, 2, 3, 10):
            for h in (1, 2, 10):
                told = tuple((x, y) for x, y in box if 0 <= x <= 2 * k - 2 and 0 <= y <= (0 if x % 2 else h))
                self.assertEqual(shapes.comb(k, h), told)

    def test_size_1(self):
        self.assertEqual([shapes.bar(1, 1), shapes.stairs(1), shapes.comb(1, 1)],
                         [((0, 0),), ((0, 0), (1, 0)), ((0, 0), (0, 1))])
        self.assertEqual([shapes.spiral(1), shapes.zigzag(1)], ["rr", "rr"])

    def test_their_number_is_1(self):
        """Any cell of a bar, of stairs, any cell (x, 0) of a comb serves all."""
        told = [(shapes.bar(m, n), 10) for m in range(1, 7) for n in range(1, 7)]
        told += [(shapes.stairs(k), 10) for k in range(1, 8)]
        told += [(shapes.comb(k, h), 1) for k in range(1, 7) for h in range(1, 5)]
        for room, below in told:
            self.assertTrue(is_room(room))
            for cell in room:
                if cell[1] < below:
                    self.assertEqual(reckon.served(room, cell), set(room))
            self.assertEqual(stalls.fewest(room, room), 1)


class Corridors(unittest.TestCase):
    def test_which_texts_are_corridors(self):
        for many in range(7):
            for steps in map("".join, itertools.product("rlud", repeat=many)):
                self.assertIs(shapes.is_corridor(steps), is_corridor(steps), steps)
        for steps in LONG:
            for _ in range(6):
                k = CHANCE.randrange(len(steps))
                other = steps[:k] + CHANCE.choice(("", "r", "l", "u", "d")) + steps[k + CHANCE.randrange(2):]
                self.assertIs(shapes.is_corridor(other), is_corridor(other), other)

    def test_trails_that_touch_themselves(self):
        # By a cell twice, by sides, and by corners alone, which is let.
        told = [("rl", False), ("rruulldd", False), ("rruulld", False), ("rrulu", False), ("rrul", False),
                ("rruullld", True), ("rruullldd", False), ("rrulldd", False), ("ruldr", False), ("rrruuulluld", False),
                ("rruu", True), ("", True), ("r" * 200, True), ("ru" * 100, True), ("r" * 199 + "l", False)]
        for steps, right in told:
            self.assertIs(shapes.is_corridor(steps), right, steps)

    def test_any_value(self):
        for value in some_values() + ["rr ", " rr", "R", "rrx", "\n", "rr\n", b"rr", ("r", "r"), ["r"], ("rr",)]:
            right = isinstance(value, str) and set(value) <= set("rlud") and is_corridor(value)
            self.assertIs(shapes.is_corridor(value), right)
        for value in of_other_kinds((0, 1)):
            self.assertIs(shapes.is_corridor(value), False)

    def test_cells(self):
        self.assertEqual([shapes.corridor_cells(""), shapes.corridor("")], [((0, 0),), ((0, 0),)])
        # A text of steps that is no corridor has its trail, too.
        self.assertEqual(shapes.corridor_cells("rlu"), ((0, 0), (1, 0), (0, 0), (0, 1)))
        for steps in CORRIDORS + LONG:
            self.assertEqual(shapes.corridor_cells(steps), tuple(cells_of(steps)))
            self.assertEqual(shapes.corridor(steps), tuple(sorted(cells_of(steps))))
            self.assertTrue(is_room(shapes.corridor(steps)) and tries.is_room(cells_of(steps)))

    def test_stretches_are_fields(self):
        """By a walk over the cells; and a cell serves another one exactly if no two contrary steps are between."""
        for steps in CORRIDORS + LONG[:10]:
            cells = cells_of(steps)
            room = tuple(sorted(cells))
            for i, cell in enumerate(cells):
                numbers = [k for k, other in enumerate(cells) if other in reckon.served(room, cell)]
                self.assertEqual(numbers, list(range(numbers[0], numbers[-1] + 1)))
                self.assertEqual(shapes.corridor_stretch(steps, i), (numbers[0], numbers[-1]))
                for k in range(len(cells)):
                    between = set(steps[min(i, k):max(i, k)])
                    self.assertIs(k in numbers, not ({"r", "l"} <= between or {"u", "d"} <= between))

    def test_stalls_and_spots_one_behind_another(self):
        numbers = set()
        for steps in CORRIDORS + LONG[:10]:
            cells = cells_of(steps)
            room = tuple(sorted(cells))
            taken, firsts = [], []
            while not reckon.serve(room, [cells[k] for k in taken], room):
                lit = set().union(*[reckon.served(room, cells[k]) for k in taken])
                firsts.append(min(k for k in range(len(cells)) if cells[k] not in lit))
                taken.append(max(k for k in range(len(cells)) if cells[k] in reckon.served(room, cells[firsts[-1]])))
            self.assertEqual(shapes.corridor_stalls(steps), tuple(taken))
            self.assertEqual(shapes.corridor_spots(steps), tuple(firsts))
            spots = [cells[k] for k in firsts]
            self.assertFalse(any(reckon.tied(room, *pair) for pair in itertools.combinations(spots, 2)))
            numbers.add(len(taken))
        self.assertTrue({1, 2, 3, 4} <= numbers)

    def test_their_number(self):
        for steps in CORRIDORS:
            room = shapes.corridor(steps)
            many = len(shapes.corridor_stalls(steps))
            self.assertEqual([stalls.fewest(room, room), len(shapes.corridor_spots(steps))], [many] * 2)
            if len(room) < 30:
                self.assertEqual(tries.number_of(room), many)

    def test_the_corridor_without_steps(self):
        self.assertEqual([shapes.corridor_stretch("", 0), shapes.corridor_stalls(""), shapes.corridor_spots("")],
                         [(0, 0), (0,), (0,)])


def arms_of(steps):
    """Return the list of the greatest stretches of alike steps."""
    return ["".join(group) for _, group in itertools.groupby(steps)]


class SpiralsAndZigzags(unittest.TestCase):
    def test_arms(self):
        for k in range(1, 13):
            arms = arms_of(shapes.spiral(k))
            self.assertEqual([arm[0] for arm in arms], list("ruldruldruld"[:k]))
            self.assertEqual([len(arm) for arm in arms], [2, 2, 4, 4, 6, 6, 8, 8, 10, 10, 12, 12][:k])
            arms = arms_of(shapes.zigzag(k))
            self.assertEqual(arms, ["rr", "uu", "ll", "uu", "rr", "uu", "ll", "uu", "rr", "uu", "ll", "uu", "rr", "uu",
                                    "ll", "uu", "rr", "uu", "ll", "uu", "rr", "uu", "ll"][:2 * k - 1])

    def test_their_numbers(self):
        for k in range(1, 13):
            for steps, many in ((shapes.spiral(k), [1, 1, 1, 1, 2, 2, 2, 2, 3, 3, 3, 3][k - 1]),
                                (shapes.zigzag(k), [1, 1, 2, 2, 3, 3, 4, 4, 5, 5, 6, 6][k - 1])):
                self.assertTrue(shapes.is_corridor(steps))
                self.assertEqual([len(shapes.corridor_stalls(steps)), len(shapes.corridor_spots(steps))], [many] * 2)
                room = shapes.corridor(steps)
                self.assertEqual(stalls.fewest(room, room), many)
                if len(room) < 30:
                    self.assertEqual(tries.number_of(room), many)
        for k in range(13, 20):
            self.assertEqual(len(shapes.corridor_stalls(shapes.spiral(k))), (k + 3) // 4)
            self.assertEqual(len(shapes.corridor_stalls(shapes.zigzag(k))), (k + 1) // 2)

    def test_told_numbers_and_rooms_of_shapes(self):
        told = [("bar", (m, n), shapes.bar(m, n)) for m in (1, 2, 5) for n in (1, 3, 6)]
        told += [("comb", (k, h), shapes.comb(k, h)) for k in (1, 2, 4) for h in (1, 3)]
        told += [("stairs", (k,), shapes.stairs(k)) for k in (1, 2, 9)]
        told += [("spiral", (k,), shapes.corridor(shapes.spiral(k))) for k in range(1, 9)]
        told += [("zigzag", (k,), shapes.corridor(shapes.zigzag(k))) for k in range(1, 11)]
        for word, numbers, room in told:
            self.assertEqual(shapes.shape_room(word, numbers), room)
            self.assertEqual(shapes.told_number(word, numbers), stalls.fewest(room, room), (word, numbers))
        self.assertEqual([shapes.told_number(*one) for one in (("bar", (10, 10)), ("stairs", (20,)), ("comb", (10, 10)),
                                                               ("spiral", (12,)), ("zigzag", (10,)))],
                         [1, 1, 1, 3, 5])


if __name__ == "__main__":
    unittest.main()
