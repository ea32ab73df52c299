"""Part 11, [11.4] and [11.5]: rooms cut by a line, rooms put together."""

import random
import unittest

from nodetour import cutting, stalls
from nodetour.shapes import bar, corridor
from tests import tries
from tests.drawn import drawn_rooms, small_rooms

HOOP = corridor("rruull")
# Open to the right: what is put beside it may close it.
JAWS = ((0, 0), (0, 1), (0, 2), (1, 0), (1, 2))
ROOMS = small_rooms(3, 3)[::3] + drawn_rooms(40, 14) + drawn_rooms(40, 30) + (HOOP, JAWS)


def number_of(room):
    return stalls.fewest(room, room)


class Cut(unittest.TestCase):
    def test_pieces_and_numbers_by_trying(self):
        many = set()
        for room in ROOMS:
            for axis, way in enumerate("xy"):
                for c in range(min(cell[axis] for cell in room) - 1, max(cell[axis] for cell in room) + 3):
                    parts = tries.pieces_of(cell for cell in room if cell[axis] < c)
                    parts += tries.pieces_of(cell for cell in room if cell[axis] >= c)
                    told = cutting.cut_at(room, way, c)
                    self.assertEqual(told, tuple(sorted(parts)))
                    self.assertTrue(all(map(tries.is_room, told)))
                    numbers = [number_of(part) for part in parts]
                    self.assertEqual(cutting.cut_bounds(room, way, c), (max(numbers), sum(numbers)))
                    self.assertTrue(max(numbers) <= number_of(room) <= sum(numbers))
                    if len(room) < 12:
                        self.assertEqual(numbers, [tries.number_of(part) for part in parts])
                    many.add((len(told) > 2, max(numbers) < number_of(room) < sum(numbers)))
        self.assertIn((True, True), many)

    def test_lines_that_leave_all_on_one_side(self):
        for room in (HOOP, JAWS, bar(1, 1), bar(3, 2)):
            for way in "xy":
                for c in (-999999, 0, 3, 999999):
                    self.assertEqual(cutting.cut_at(room, way, c), (room,))
                    self.assertEqual(cutting.cut_bounds(room, way, c), (1, 1))

    def test_what_is_at_the_line_is_beyond_it(self):
        self.assertEqual(cutting.cut_at(bar(3, 1), "x", 1), (((0, 0),), ((1, 0), (2, 0))))
        self.assertEqual(cutting.cut_at(bar(1, 3), "y", 2), (((0, 0), (0, 1)), ((0, 2),)))
        # By x and by y, ascending, from both sides of the line.
        self.assertEqual(cutting.cut_at(HOOP, "x", 2), (((0, 0), (1, 0)), ((0, 2), (1, 2)), ((2, 0), (2, 1), (2, 2))))
        self.assertEqual(cutting.cut_at(HOOP, "y", 1), (((0, 0), (1, 0), (2, 0)),
                                                        ((0, 2), (1, 2), (2, 1), (2, 2))))


def moved(lot, dx, dy):
    return tuple((x + dx, y + dy) for x, y in lot)


def least(lot, axis):
    return min(cell[axis] for cell in lot)


def greatest(lot, axis):
    return max(cell[axis] for cell in lot)


def room_of(cells):
    """Return the cells, ascending, if they are a room, else None."""
    return tuple(sorted(set(cells))) if tries.is_room(cells) else None


class PutTogether(unittest.TestCase):
    def test_by_trying(self):
        chance = random.Random(112)
        right = wrong = 0
        for one in ROOMS:
            other = chance.choice(ROOMS)
            other = moved(other, chance.randrange(-5, 6), chance.randrange(-5, 6))
            for by in range(-8, 9):
                beside = moved(other, greatest(one, 0) + 1 - least(other, 0), least(one, 1) + by - least(other, 1))
                above = moved(other, least(one, 0) + by - least(other, 0), greatest(one, 1) + 1 - least(other, 1))
                told = [cutting.put_beside(one, other, by), cutting.put_above(one, other, by)]
                self.assertEqual(told, [room_of(one + beside), room_of(one + above)])
                for room in told:
                    right, wrong = right + (room is not None), wrong + (room is None)
                    if room is not None and len(room) < 40:
                        told_number = tries.number_of if len(room) < 14 else number_of
                        numbers = [told_number(one), told_number(other)]
                        self.assertTrue(max(numbers) <= told_number(room) <= sum(numbers))
                touching = tuple((x, y) for x, y in one if {(x + 1, y), (x - 1, y), (x, y + 1), (x, y - 1)}
                                 & set(beside))
                self.assertEqual(cutting.gate(one, other, by), touching)
        self.assertTrue(right > 300 and wrong > 300)

    def test_x_and_y_exchanged(self):
        for one in ROOMS[::4]:
            for other in ROOMS[::31]:
                for by in range(-2, 3):
                    told = cutting.put_beside(*[tuple(sorted((y, x) for x, y in lot)) for lot in (one, other)], by)
                    self.assertEqual(cutting.put_above(one, other, by),
                                     told and tuple(sorted((y, x) for x, y in told)))

    def test_by_one_cell_with_a_gap_and_round_a_hole(self):
        self.assertEqual(cutting.put_beside(bar(2, 1), bar(2, 1), 0), bar(4, 1))
        self.assertEqual(cutting.put_beside(bar(1, 3), bar(1, 3), 2), ((0, 0), (0, 1), (0, 2), (1, 2), (1, 3), (1, 4)))
        self.assertEqual([cutting.put_beside(bar(1, 3), bar(1, 3), by) is None for by in range(-4, 5)],
                         [True, True, False, False, False, False, False, True, True])
        self.assertEqual([cutting.put_above(bar(3, 1), bar(3, 1), by) is None for by in range(-4, 5)],
                         [True, True, False, False, False, False, False, True, True])
        # The cell (1, 1) is a hole then; beside one jaw alone it is none.
        self.assertEqual(cutting.put_beside(JAWS, bar(1, 3), 0), None)
        self.assertEqual(cutting.put_beside(JAWS, bar(1, 2), 0), tuple(sorted(JAWS + ((2, 0), (2, 1)))))
        self.assertEqual(cutting.put_beside(JAWS, bar(1, 1), 1), None)
        self.assertEqual([cutting.gate(JAWS, bar(1, 3), 0), cutting.gate(JAWS, bar(1, 3), 2),
                          cutting.gate(JAWS, bar(1, 3), 3), cutting.gate(bar(3, 3), bar(1, 2), 1)],
                         [((1, 0), (1, 2)), ((1, 2),), (), ((2, 1), (2, 2))])

    def test_far_apart(self):
        for by in (999999, -999999):
            self.assertEqual([cutting.put_beside(bar(10, 10), bar(10, 10), by),
                              cutting.put_above(bar(10, 10), bar(10, 10), by),
                              cutting.gate(bar(10, 10), bar(10, 10), by)], [None, None, ()])


if __name__ == "__main__":
    unittest.main()
