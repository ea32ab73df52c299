"""[1.2]: pieces, holes, filled lots, rooms, and what the turns and finer ones of rooms are."""

import copy
import unittest

from nodetour import rooms
from tests.support import BIG, HOOK, RING, lots_within, some_lots, some_values

# Two squares of white that touch by a corner alone: one hole, as white hangs together by near cells.
TWO_HOLES_IN_ONE = tuple(sorted({(x, y) for x in range(4) for y in range(4)} - {(1, 1), (2, 2)}))
# A white cell that touches the outside by a corner alone is outside, too.
OPEN_CORNER = tuple(cell for cell in RING if cell != (2, 2))
# Two pieces that touch by a corner alone.
TOUCHING = ((0, 0), (1, 1))
# Four cells round a white one, each a piece of its own.
CROSS = ((0, 1), (1, 0), (1, 2), (2, 1))


def plain_parts(cells, sides_alone):
    """Return the parts of cells that hang together: each cell takes the least of the cells around, till all stay."""
    label = {cell: cell for cell in cells}
    going = True
    while going:
        going = False
        for x, y in label:
            for dx, dy in ((1, 0), (0, 1), (-1, 0), (0, -1), (1, 1), (-1, 1), (-1, -1), (1, -1)):
                other = (x + dx, y + dy)
                if other in label and not (sides_alone and dx and dy) and label[other] < label[x, y]:
                    label[x, y] = label[other]
                    going = True
    return tuple(sorted(tuple(sorted(c for c in label if label[c] == name)) for name in set(label.values())))


def plain_holes(lot):
    if not lot:
        return ()
    xs, ys = [x for x, y in lot], [y for x, y in lot]
    corner = (min(xs) - 2, min(ys) - 2)
    white = [(x, y) for x in range(corner[0], max(xs) + 3) for y in range(corner[1], max(ys) + 3)
             if (x, y) not in lot]
    return tuple(part for part in plain_parts(white, False) if corner not in part)


def plain_fault(lot):
    """Return the first fault of a lot by what pieces and holes plainly are."""
    if not lot:
        return ("form",)
    parts = plain_parts(lot, True)
    if len(parts) > 1:
        return ("apart", min(cell for part in parts if lot[0] not in part for cell in part))
    found = plain_holes(lot)
    if found:
        return ("hole", min(cell for hole in found for cell in hole))
    return None


class Pieces(unittest.TestCase):
    def test_edges(self):
        self.assertEqual([rooms.pieces(()), rooms.pieces(((4, -4),))], [(), (((4, -4),),)])
        self.assertEqual(rooms.pieces(TOUCHING), (((0, 0),), ((1, 1),)))
        self.assertEqual(rooms.pieces(CROSS), (((0, 1),), ((1, 0),), ((1, 2),), ((2, 1),)))
        self.assertEqual(rooms.pieces(RING), (RING,))
        self.assertEqual(rooms.pieces(((0, 0), (0, 1), (1, 5), (2, 0), (2, 1), (2, 5))),
                         (((0, 0), (0, 1)), ((1, 5), (2, 5)), ((2, 0), (2, 1))))

    def test_all_small_lots_and_many_larger_ones(self):
        for lot in list(lots_within(3, 3)) + some_lots(150, 7):
            self.assertEqual(rooms.pieces(lot), plain_parts(lot, True))


class Holes(unittest.TestCase):
    def test_edges(self):
        self.assertEqual([rooms.holes(()), rooms.holes(((0, 0),)), rooms.holes(HOOK)], [(), (), ()])
        self.assertEqual(rooms.holes(RING), (((1, 1),),))
        self.assertEqual(rooms.holes(OPEN_CORNER), ())
        self.assertEqual(rooms.holes(CROSS), ())
        self.assertEqual(rooms.holes(TWO_HOLES_IN_ONE), (((1, 1), (2, 2)),))

    def test_several_holes_and_a_piece_within_a_hole(self):
        block = {(x, y) for x in range(5) for y in range(5)}
        self.assertEqual(rooms.holes(tuple(sorted(block - {(1, 1), (3, 3), (3, 2), (1, 3)}))),
                         (((1, 1),), ((1, 3),), ((3, 2), (3, 3))))
        moat = tuple(sorted(block - {(x, y) for x in (1, 2, 3) for y in (1, 2, 3)} | {(2, 2)}))
        self.assertEqual(rooms.holes(moat), (((1, 1), (1, 2), (1, 3), (2, 1), (2, 3), (3, 1), (3, 2), (3, 3)),))
        self.assertEqual(rooms.filled(moat), tuple(sorted(block)))

    def test_pieces_that_touch_by_a_corner_within_a_ring(self):
        block = {(x, y) for x in range(6) for y in range(6)}
        inner = {(x, y) for x in range(1, 5) for y in range(1, 5)}
        lot = tuple(sorted(block - inner | {(2, 2), (3, 3)}))
        self.assertEqual(rooms.holes(lot), (tuple(sorted(inner - {(2, 2), (3, 3)})),))

    def test_pieces_far_apart(self):
        far = 999999999
        lot = RING + rooms.shifted(RING, far, -far)
        self.assertEqual(rooms.holes(lot), (((1, 1),), ((1 + far, 1 - far),)))
        self.assertEqual(len(rooms.filled(lot)), 18)

    def test_all_small_lots_and_many_larger_ones(self):
        for lot in list(lots_within(3, 4)) + some_lots(200, 7):
            self.assertEqual(rooms.holes(lot), plain_holes(lot), lot)

    def test_filled(self):
        self.assertEqual([rooms.filled(()), rooms.filled(HOOK), len(rooms.filled(RING))], [(), HOOK, 9])
        for lot in some_lots(150, 7):
            told = sorted(lot + tuple(cell for hole in plain_holes(lot) for cell in hole))
            self.assertEqual(rooms.filled(lot), tuple(told))
            self.assertEqual(rooms.holes(rooms.filled(lot)), ())

    def test_a_large_ring(self):
        ring = tuple((x, y) for x in range(100) for y in range(100) if x in (0, 99) or y in (0, 99))
        self.assertEqual(len(ring), 396)
        self.assertEqual(len(rooms.holes(ring)[0]), 98 * 98)
        self.assertEqual(rooms.judge_room(ring), ("hole", (1, 1)))


class Judged(unittest.TestCase):
    def test_sequence_of_the_faults(self):
        # Apart and with a hole: apart goes ahead, though the hole's cell is less.
        self.assertEqual(rooms.judge_room(RING + ((9, 9),)), ("apart", (9, 9)))
        # No lot, apart and with a hole: the form goes ahead.
        self.assertEqual(rooms.judge_room(((9, 9),) + RING), ("form",))
        self.assertEqual(rooms.judge_room(RING + ((9, True),)), ("form",))

    def test_the_least_cell_is_told(self):
        self.assertEqual(rooms.judge_room(((0, 0), (1, 7), (2, 0), (2, 1))), ("apart", (1, 7)))
        self.assertEqual(rooms.judge_room(TOUCHING), ("apart", (1, 1)))
        self.assertEqual(rooms.judge_room(TWO_HOLES_IN_ONE), ("hole", (1, 1)))
        block = {(x, y) for x in range(5) for y in range(5)}
        self.assertEqual(rooms.judge_room(tuple(sorted(block - {(1, 3), (3, 1)}))), ("hole", (1, 3)))

    def test_rooms(self):
        for lot in (((0, 0),), ((-7, 3),), HOOK, OPEN_CORNER, rooms.filled(RING)):
            self.assertIs(rooms.judge_room(lot), None)
            self.assertIs(rooms.is_room(lot), True)

    def test_wrong_values(self):
        for value in ((), [], [(0, 0)], list(HOOK), None, True, 0, "room", {(0, 0): True}, ((0, 0), [0, 1]),
                      ((False, 0),), ((0, 0), (0, True)), ((0, 1), (0, 0)), ((0, 0), (0, 0)), (0, 0)):
            self.assertEqual(rooms.judge_room(value), ("form",))
            self.assertIs(rooms.is_room(value), False)

    def test_all_small_lots_and_many_larger_ones(self):
        for lot in list(lots_within(3, 4)) + some_lots(200, 7):
            self.assertEqual(rooms.judge_room(lot), plain_fault(lot), lot)
            self.assertIs(rooms.is_room(lot), plain_fault(lot) is None)

    def test_any_value(self):
        for value in some_values():
            before = copy.deepcopy(value)
            told = plain_fault(value) if rooms.is_lot(value) else ("form",)
            self.assertEqual(rooms.judge_room(value), told)
            self.assertIs(rooms.is_room(value), told is None)
            self.assertEqual(value, before)

    def test_cells_of_sixty_digits(self):
        self.assertIs(rooms.judge_room(((BIG, -BIG), (BIG, 1 - BIG))), None)
        self.assertEqual(rooms.judge_room(((-BIG, 0), (BIG, 0))), ("apart", (BIG, 0)))
        self.assertEqual(rooms.judge_room(rooms.shifted(RING, BIG, BIG)), ("hole", (BIG + 1, BIG + 1)))

    def test_stairs_as_wide_as_lots_may_be(self):
        stairs = tuple(sorted([(k, k) for k in range(100)] + [(k + 1, k) for k in range(99)]))
        self.assertIs(rooms.judge_room(stairs), None)


class Kinds(unittest.TestCase):
    def test_turns_and_finer_ones_of_rooms_are_rooms(self):
        for lot in lots_within(3, 3):
            wanted = rooms.is_room(lot)
            for t in range(8):
                self.assertIs(rooms.is_room(rooms.shifted(rooms.posed(lot, t), -9, 4)), wanted)
            for other in (rooms.at_home(lot), rooms.least_pose(lot), rooms.finer(lot, 2), rooms.finer(lot, 3)):
                self.assertIs(rooms.is_room(other), wanted)

    def test_rooms_with_the_same_cells_have_the_same_answers(self):
        for lot in some_lots(40, 6):
            again = tuple((x, y) for x, y in lot)
            self.assertEqual(rooms.pieces(lot), rooms.pieces(again))
            self.assertEqual(rooms.holes(lot), rooms.holes(again))


if __name__ == "__main__":
    unittest.main()
