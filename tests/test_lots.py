"""[1.1], [1.3], [1.4], [1.5]: cells, lots, boxes, turns, finer lots, stretches and counts."""

import copy
import unittest

from nodetour import rooms
from tests.support import BIG, HOOK, RING, lots_within, some_lots, some_values

LOTS = some_lots(150, 6) + [(), ((0, 0),), ((-3, 7),), HOOK, RING]
LINE = ((-2, 5), (-1, 5), (0, 5))


def plain_integer(value):
    return type(value) is int


def plain_cell(value):
    return type(value) is tuple and len(value) == 2 and all(plain_integer(part) for part in value)


def plain_lot(value):
    if type(value) is not tuple or not all(plain_cell(cell) for cell in value):
        return False
    return list(value) == sorted(set(value))


class CellsAndLots(unittest.TestCase):
    def test_is_cell(self):
        for value in ((0, 0), (-1, 2), (BIG, -BIG)):
            self.assertIs(rooms.is_cell(value), True)
        for value in ([0, 0], (0,), (0, 0, 0), (), (True, 0), (0, False), (0, None), ("0", 0), (0, (0,)), "ab",
                      None, 0, {0: 0, 1: 1}, ((0, 0),), (0, [0])):
            self.assertIs(rooms.is_cell(value), False, value)

    def test_is_lot(self):
        for value in ((), ((0, 0),), HOOK, ((-BIG, BIG), (BIG, -BIG))):
            self.assertIs(rooms.is_lot(value), True)
        for value in ([], [(0, 0)], ((0, 0), (0, 0)), ((0, 1), (0, 0)), ((1, 0), (0, 5)), ([0, 0],), ((0, True),),
                      ((False, 0), (1, 0)), ((0, 0), None), (0, 0), None, "", {}, ((0, 0), (1, 0, 0)), ((0, "0"),)):
            self.assertIs(rooms.is_lot(value), False, value)

    def test_is_cell_and_is_lot_of_any_value(self):
        for value in some_values():
            before = copy.deepcopy(value)
            self.assertIs(rooms.is_cell(value), plain_cell(value))
            self.assertIs(rooms.is_lot(value), plain_lot(value))
            self.assertEqual(value, before)

    def test_lot_of(self):
        cells = [(1, 0), (0, 1), (1, 0), (-5, 3)]
        self.assertEqual(rooms.lot_of(cells), ((-5, 3), (0, 1), (1, 0)))
        self.assertEqual(cells, [(1, 0), (0, 1), (1, 0), (-5, 3)])
        self.assertEqual(rooms.lot_of([]), ())
        self.assertEqual(rooms.lot_of(((2, 2), (1, 1))), ((1, 1), (2, 2)))

    def test_side_cells_and_near_cells_in_their_orders(self):
        self.assertEqual(rooms.side_cells((5, -5)), ((6, -5), (5, -4), (4, -5), (5, -6)))
        self.assertEqual(rooms.near_cells((5, -5)), ((6, -5), (6, -4), (5, -4), (4, -4),
                                                     (4, -5), (4, -6), (5, -6), (6, -6)))

    def test_sums_of_lots(self):
        for one, other in zip(LOTS, LOTS[1:] + LOTS[:1]):
            self.assertEqual(rooms.united(one, other), tuple(sorted({*one, *other})))
            self.assertEqual(rooms.shared(one, other), tuple(c for c in one if c in other))
            self.assertEqual(rooms.taken_out(one, other), tuple(c for c in one if c not in other))
            self.assertIs(rooms.lies_in(one, other), all(c in other for c in one))
            self.assertIs(rooms.lies_in(rooms.shared(one, other), other), True)

    def test_sums_with_the_empty_lot(self):
        self.assertEqual([rooms.united((), HOOK), rooms.shared((), HOOK), rooms.taken_out((), HOOK)], [HOOK, (), ()])
        self.assertEqual([rooms.taken_out(HOOK, ()), rooms.united((), ())], [HOOK, ()])
        self.assertEqual([rooms.lies_in((), HOOK), rooms.lies_in((), ()), rooms.lies_in(HOOK, ())],
                         [True, True, False])


class Turns(unittest.TestCase):
    def test_box_of(self):
        for lot in LOTS:
            if lot:
                xs, ys = [x for x, y in lot], [y for x, y in lot]
                self.assertEqual(rooms.box_of(lot), (min(xs), min(ys), max(xs), max(ys)))
        self.assertIs(rooms.box_of(()), None)
        self.assertEqual(rooms.box_of(((-3, 7),)), (-3, 7, -3, 7))

    def test_shifted(self):
        for lot in LOTS:
            moved = rooms.shifted(lot, -3, 999)
            self.assertEqual(moved, tuple((x - 3, y + 999) for x, y in lot))
            self.assertEqual(rooms.shifted(moved, 3, -999), lot)

    def test_quarter_turned_takes_any_integer(self):
        for lot in LOTS:
            turned = lot
            for k in range(9):
                self.assertEqual(rooms.quarter_turned(lot, k), turned)
                self.assertEqual(rooms.quarter_turned(lot, k - 4), turned)
                self.assertEqual(rooms.quarter_turned(lot, k - 4000), turned)
                turned = tuple(sorted((-y, x) for x, y in turned))
        self.assertEqual(rooms.quarter_turned(((1, 2),), -1), ((2, -1),))
        self.assertEqual(rooms.quarter_turned(((1, 2),), 7), ((2, -1),))

    def test_mirrored(self):
        for lot in LOTS:
            self.assertEqual(rooms.mirrored(lot), tuple(sorted((-x, y) for x, y in lot)))

    def test_posed_mirrors_first_and_turns_then(self):
        led = [(1, 2), (-2, 1), (-1, -2), (2, -1), (-1, 2), (-2, -1), (1, -2), (2, 1)]
        self.assertEqual([rooms.posed_cell((1, 2), t) for t in range(8)], led)
        for lot in LOTS:
            for t in range(8):
                start = rooms.mirrored(lot) if t >= 4 else lot
                self.assertEqual(rooms.posed(lot, t), rooms.quarter_turned(start, t % 4))
                self.assertEqual(rooms.posed(lot, t), rooms.lot_of([rooms.posed_cell(c, t) for c in lot]))

    def test_at_home(self):
        self.assertEqual(rooms.at_home(()), ())
        for lot in LOTS:
            home = rooms.at_home(lot)
            if lot:
                self.assertEqual(rooms.box_of(home)[:2], (0, 0))
                dx, dy = lot[0][0] - home[0][0], lot[0][1] - home[0][1]
                self.assertEqual(rooms.shifted(home, dx, dy), lot)

    def test_least_pose(self):
        self.assertEqual(rooms.least_pose(()), ())
        self.assertEqual(rooms.least_pose(((4, 4), (5, 4))), ((0, 0), (0, 1)))
        for lot in LOTS:
            homes = [rooms.at_home(rooms.posed(lot, t)) for t in range(8)]
            least = rooms.least_pose(lot)
            self.assertIn(least, homes)
            self.assertTrue(all(least <= home for home in homes))
            self.assertEqual(rooms.least_pose(rooms.shifted(rooms.posed(lot, 6), 3, -4)), least)

    def test_pose_between_finds_the_least_triple(self):
        for lot in LOTS:
            for t in range(8):
                other = rooms.shifted(rooms.posed(lot, t), -7, 2)
                triples = []
                for turn in range(8):
                    for dx in range(-30, 31):
                        turned = rooms.posed(lot, turn)
                        dy = other[0][1] - turned[0][1] if lot else 0
                        if lot and rooms.shifted(turned, dx, dy) == other:
                            triples.append((turn, dx, dy))
                self.assertEqual(rooms.pose_between(lot, other), min(triples, default=(0, 0, 0)))

    def test_pose_between_lots_that_are_not_alike(self):
        self.assertEqual(rooms.pose_between((), ()), (0, 0, 0))
        self.assertEqual(rooms.pose_between(HOOK, HOOK), (0, 0, 0))
        self.assertEqual(rooms.pose_between(((1, 1),), ((4, 0),)), (0, 3, -1))
        for one, other in (((), HOOK), (HOOK, ()), (HOOK, LINE), (HOOK, RING), (HOOK, ((0, 0), (1, 1)))):
            self.assertIs(rooms.pose_between(one, other), None)


class Finer(unittest.TestCase):
    def test_finer_and_block_of(self):
        for lot in LOTS:
            for k in (1, 2, 3):
                fine = rooms.finer(lot, k)
                self.assertTrue(rooms.is_lot(fine))
                self.assertEqual(len(fine), k * k * len(lot))
                self.assertEqual(rooms.lot_of([rooms.block_of(c, k) for c in fine]), lot)
            self.assertEqual(rooms.finer(lot, 1), lot)
        self.assertEqual(rooms.finer(((-1, 2),), 3), tuple((x, y) for x in (-3, -2, -1) for y in (6, 7, 8)))
        self.assertEqual(len(rooms.finer(tuple((0, y) for y in range(20)), 10)), 2000)

    def test_block_of_cells_below_0(self):
        told = [rooms.block_of((x, -x), 3) for x in (-4, -3, -1, 0, 2, 3)]
        self.assertEqual(told, [(-2, 1), (-1, 1), (-1, 0), (0, 0), (0, -1), (1, -1)])


def plain_stretches(lot, dx, dy):
    """Put each two neighbouring stretches together till there are none."""
    parts = [[cell] for cell in lot]
    for x, y in lot:
        ahead = [part for part in parts if (x, y) in part][0]
        behind = [part for part in parts if (x + dx, y + dy) in part]
        if behind:
            parts.remove(behind[0])
            ahead.extend(behind[0])
    return tuple(sorted(tuple(sorted(part)) for part in parts))


class Stretches(unittest.TestCase):
    def test_rows_and_columns(self):
        for lot in LOTS + list(lots_within(3, 3)):
            self.assertEqual(rooms.rows_of(lot), plain_stretches(lot, 1, 0))
            self.assertEqual(rooms.columns_of(lot), plain_stretches(lot, 0, 1))
        self.assertEqual(rooms.rows_of(((0, 0), (1, 1), (2, 0))), (((0, 0),), ((1, 1),), ((2, 0),)))
        self.assertEqual([rooms.rows_of(()), rooms.columns_of(())], [(), ()])

    def test_the_row_and_the_column_of_a_cell(self):
        for lot in LOTS:
            for cell in lot:
                row, column = rooms.row_of(lot, cell), rooms.column_of(lot, cell)
                self.assertIn(cell, row)
                self.assertIn(row, rooms.rows_of(lot))
                self.assertIn(cell, column)
                self.assertIn(column, rooms.columns_of(lot))
        self.assertEqual(rooms.row_of(RING, (0, 1)), ((0, 1),))
        self.assertEqual(rooms.column_of(RING, (0, 1)), ((0, 0), (0, 1), (0, 2)))

    def test_ends(self):
        self.assertEqual([rooms.ends_of(()), rooms.ends_of(((0, 0),)), rooms.ends_of(RING)], [(), (), ()])
        self.assertEqual(rooms.ends_of(LINE), ((-2, 5), (0, 5)))
        self.assertEqual(rooms.ends_of(((0, 0), (1, 1))), ())
        for lot in LOTS:
            told = tuple((x, y) for x, y in lot
                         if sum(abs(x - u) + abs(y - v) == 1 for u, v in lot) == 1)
            self.assertEqual(rooms.ends_of(lot), told)

    def test_rim_length_also_of_holes(self):
        self.assertEqual([rooms.rim_length(()), rooms.rim_length(((9, 9),)), rooms.rim_length(RING)], [0, 4, 16])
        for lot in LOTS:
            told = sum((x + dx, y + dy) not in lot for x, y in lot for dx, dy in ((1, 0), (-1, 0), (0, 1), (0, -1)))
            self.assertEqual(rooms.rim_length(lot), told)

    def test_counts(self):
        told = [rooms.counts(()), rooms.counts(((9, 9),)), rooms.counts(RING)]
        self.assertEqual(told, [(0, 0, 0), (1, 0, 0), (8, 8, 0)])
        for lot in LOTS:
            pairs = sum(abs(x - u) + abs(y - v) == 1 for x, y in lot for u, v in lot) // 2
            squares = sum({(x + 1, y), (x, y + 1), (x + 1, y + 1)} <= set(lot) for x, y in lot)
            self.assertEqual(rooms.counts(lot), (len(lot), pairs, squares))

    def test_a_room_counts_to_one(self):
        for lot in lots_within(3, 4):
            if rooms.is_room(lot):
                cells, pairs, squares = rooms.counts(lot)
                self.assertEqual(cells - pairs + squares, 1)
                self.assertEqual(rooms.rim_length(lot), 4 * cells - 2 * pairs)


if __name__ == "__main__":
    unittest.main()
