"""Part 4: fields."""

import copy
import random
import unittest

from nodetour import fields, ways
from nodetour.rooms import is_lot, is_room
from tests.drawn import altered, drawn_rooms, of_other_kinds, small_rooms, some_of
from tests.reckon import common, hard, harder, served, tied, ways_from
from tests.support import some_values

CUP = ((0, 0), (0, 1), (1, 0), (2, 0), (2, 1))
SNAKE = ((0, 0), (0, 2), (0, 3), (0, 4), (1, 0), (1, 2), (1, 4), (2, 0), (2, 1), (2, 2), (2, 4))
POCKET = tuple(sorted({(x, y) for x in range(4) for y in range(3)} - {(2, 1), (2, 2)}))
ONE = ((7, -7),)
SMALL = small_rooms(3, 3)
ROOMS = SMALL[::7] + drawn_rooms(40, 14) + (CUP, SNAKE, POCKET, ONE)
WIDE = drawn_rooms(24, 40)
QUARTERS = ("ru", "lu", "ld", "rd")


def lots_of(chance, room):
    """Return some lots of spots of a room, () and all of it, too."""
    return [(), room, some_of(chance, room, 1)] + [some_of(chance, room, many) for many in (2, 3, 5, 8)]


def stalls_of(chance, room):
    """Return some lists of stalls in any sequence, some with one of them more than once."""
    told = [[], [room[0]], [room[-1]] * 2]
    for many in (2, 3, 5):
        told.append([chance.choice(room) for _ in range(many)])
    return told


class Fields(unittest.TestCase):
    def test_fields(self):
        for room in SMALL + ROOMS + WIDE:
            for stall in room:
                self.assertEqual(fields.field(room, stall), tuple(sorted(served(room, stall))))
            self.assertEqual(fields.all_fields(room), tuple((cell, fields.field(room, cell)) for cell in room))

    def test_a_pocket(self):
        self.assertEqual(fields.field(POCKET, (3, 2)), ((0, 0), (1, 0), (2, 0), (3, 0), (3, 1), (3, 2)))
        self.assertEqual(fields.field(ONE, ONE[0]), ONE)
        self.assertEqual(fields.corner_fields(ONE, ONE[0]), (ONE,) * 4)

    def test_the_four_parts(self):
        for room in ROOMS:
            for stall in room:
                parts = fields.corner_fields(room, stall)
                self.assertIs(type(parts), tuple)
                for signs, part in zip(QUARTERS, parts):
                    told = {cell for cell, texts in ways_from(room, stall).items()
                            if any(set(text) <= set(signs) for text in texts)}
                    self.assertEqual(part, tuple(sorted(told)))
                    self.assertIn(stall, part)
                self.assertEqual(set().union(*parts), served(room, stall))

    def test_next_parts_share_what_straight_ways_come_to(self):
        for room in ROOMS + WIDE[:8]:
            for stall in room:
                parts = fields.corner_fields(room, stall)
                for k, sign in enumerate("uldr"):
                    straight, cell = {stall}, stall
                    while ways.trail(cell, sign)[1] in room:
                        cell = ways.trail(cell, sign)[1]
                        straight.add(cell)
                    self.assertEqual(set(parts[k]) & set(parts[(k + 1) % 4]), straight)

    def test_each_field_is_a_room_and_it_goes_both_ways(self):
        for room in ROOMS + WIDE:
            told = dict(fields.all_fields(room))
            for one in room:
                self.assertTrue(is_room(told[one]))
                for other in room:
                    self.assertIs(one in told[other], other in told[one])


class Common(unittest.TestCase):
    def test_common_stalls(self):
        chance = random.Random(41)
        for room in ROOMS + WIDE:
            for lot in lots_of(chance, room):
                self.assertEqual(fields.common_stalls(room, lot), common(room, lot))
            self.assertEqual(fields.common_stalls(room, ()), room)
            self.assertEqual(fields.center(room), common(room, room))

    def test_tied(self):
        for room in ROOMS + WIDE[:6]:
            for one in room:
                told = tuple(other for other in room if tied(room, one, other))
                self.assertEqual(fields.tied_to(room, one), told)
                self.assertIn(one, told)
                for other in room:
                    self.assertIs(fields.are_tied(room, one, other), other in told)
        self.assertIs(fields.are_tied(SNAKE, (0, 0), (2, 4)), False)
        self.assertIs(fields.are_tied(ONE, ONE[0], ONE[0]), True)

    def test_center_of_no_one_stall(self):
        self.assertEqual([fields.center(SNAKE), fields.center(ONE), fields.center(CUP)],
                         [(), ONE, ((0, 0), (1, 0), (2, 0))])


class LikeAndHarder(unittest.TestCase):
    def test_like_lots(self):
        for room in ROOMS + WIDE:
            lots = {}
            for cell in room:
                lots.setdefault(tuple(sorted(served(room, cell))), []).append(cell)
            self.assertEqual(fields.like_lots(room), tuple(sorted(map(tuple, lots.values()))))
        self.assertEqual(fields.like_lots(ONE), (ONE,))

    def test_hard_spots_and_those_in_a_lot(self):
        chance = random.Random(42)
        for room in ROOMS:
            self.assertEqual(fields.hard_spots(room), hard(room, room))
            for lot in lots_of(chance, room):
                self.assertEqual(fields.hard_in(room, lot), hard(room, lot))
        self.assertEqual([fields.hard_in(CUP, ()), fields.hard_spots(ONE), fields.good_stalls(ONE)], [(), ONE, ONE])

    def test_spots_that_are_alike(self):
        line = tuple((x, 0) for x in range(5))
        self.assertEqual([fields.like_lots(line), fields.hard_spots(line), fields.good_stalls(line)],
                         [(line,), ((0, 0),), ((0, 0),)])
        self.assertEqual(fields.hard_in(line, ((2, 0), (4, 0))), ((2, 0),))
        # One spot is harder only if the field of the other one has more.
        self.assertEqual(fields.hard_in(CUP, ((0, 0), (2, 0))), ((0, 0),))
        self.assertEqual(fields.hard_in(CUP, ((0, 0), (2, 0), (2, 1))), ((2, 1),))

    def test_good_stalls(self):
        for room in ROOMS:
            greatest = [cell for cell in room if not any(served(room, cell) < served(room, one) for one in room)]
            told = tuple(cell for cell in greatest
                         if not any(one < cell and served(room, one) == served(room, cell) for one in greatest))
            self.assertEqual(fields.good_stalls(room), told)

    def test_serving_the_hard_spots_is_serving_all(self):
        chance = random.Random(43)
        both = set()
        for room in ROOMS + WIDE:
            for _ in range(8):
                stalls = some_of(chance, room, chance.randrange(4))
                whole = fields.serve_all(room, room, stalls)
                self.assertIs(whole, fields.serve_all(room, fields.hard_spots(room), stalls))
                both.add(whole)
        self.assertEqual(both, {True, False})

    def test_each_stall_can_be_exchanged_for_a_good_one(self):
        for room in ROOMS + WIDE:
            good = [set(fields.field(room, stall)) for stall in fields.good_stalls(room)]
            for stall in room:
                self.assertTrue(any(set(fields.field(room, stall)) <= more for more in good))

    def test_who_serves_a_harder_spot_serves_the_other(self):
        for room in ROOMS[-30:]:
            hardest = fields.hard_spots(room)
            for spot in room:
                self.assertTrue(any(one == spot or served(room, one) == served(room, spot) or harder(room, one, spot)
                                    for one in hardest))


class LitAndDark(unittest.TestCase):
    def test_lit_dark_and_serve_all(self):
        chance = random.Random(44)
        for room in ROOMS + WIDE:
            for stalls in stalls_of(chance, room):
                told = {cell for stall in stalls for cell in served(room, stall)}
                self.assertEqual(fields.lit(room, stalls), tuple(sorted(told)))
                self.assertEqual(fields.lit(room, tuple(stalls)), tuple(sorted(told)))
                for lot in lots_of(chance, room):
                    dark = tuple(spot for spot in lot if spot not in told)
                    self.assertEqual(fields.dark_in(room, lot, stalls), dark)
                    self.assertIs(fields.serve_all(room, lot, stalls), dark == ())

    def test_without_stalls_or_spots(self):
        self.assertEqual([fields.lit(CUP, []), fields.dark_in(CUP, CUP, []), fields.dark_in(CUP, (), [])],
                         [(), CUP, ()])
        self.assertIs(fields.serve_all(CUP, (), []), True)
        self.assertIs(fields.serve_all(CUP, ((0, 0),), []), False)
        self.assertEqual(fields.seen_by_most(CUP, ()), ((0, 0), 0))
        self.assertEqual(fields.alone_served(CUP, []), [])

    def test_seen_by_most(self):
        chance = random.Random(45)
        for room in ROOMS + WIDE:
            for lot in lots_of(chance, room):
                counts = {cell: len(served(room, cell) & set(lot)) for cell in room}
                most = max(counts.values())
                told = min(cell for cell in room if counts[cell] == most)
                self.assertEqual(fields.seen_by_most(room, lot), (told, most))

    def test_alone_served(self):
        chance = random.Random(46)
        for room in ROOMS + WIDE:
            for many in (0, 1, 2, 3, 6):
                stalls = chance.sample(room, min(many, len(room)))
                told = []
                for stall in stalls:
                    others = {cell for other in stalls if other != stall for cell in served(room, other)}
                    told.append(tuple(sorted(served(room, stall) - others)))
                answer = fields.alone_served(room, stalls)
                self.assertEqual(answer, told)
                self.assertIs(type(answer), list)


def told_field_fault(room, stall, value):
    if not is_lot(value):
        return ("form",)
    for word, cells in (("wall", set(value) - set(room)), ("detour", set(value) - served(room, stall)),
                        ("lacks", served(room, stall) - set(value))):
        if cells:
            return (word, min(cells))
    return None


def told_common_fault(room, lot, value):
    if not is_lot(value):
        return ("form",)
    if set(value) - set(room):
        return ("wall", min(set(value) - set(room)))
    for stall in value:
        for spot in lot:
            if spot not in served(room, stall):
                return ("not", stall, spot)
    lacking = set(common(room, lot)) - set(value)
    return ("lacks", min(lacking)) if lacking else None


class Judges(unittest.TestCase):
    def test_right_ones(self):
        chance = random.Random(47)
        for room in ROOMS + WIDE:
            for stall in room:
                self.assertIsNone(fields.judge_field(room, stall, fields.field(room, stall)))
            for lot in lots_of(chance, room):
                self.assertIsNone(fields.judge_common(room, lot, fields.common_stalls(room, lot)))

    def test_the_sequence_of_the_faults_of_fields(self):
        told = [(((0, 0), (2, 1), (5, 5)), ("wall", (5, 5))), (((-1, 0), (2, 1), (5, 5)), ("wall", (-1, 0))),
                (((0, 0), (2, 1)), ("detour", (2, 1))), ((), ("lacks", (0, 0))), (((0, 0), (0, 1)), ("lacks", (1, 0))),
                (((0, 1), (0, 0), (9, 9)), ("form",)), (((0, 0), (0, 0)), ("form",)), (list(CUP), ("form",))]
        for value, fault in told:
            self.assertEqual(fields.judge_field(CUP, (0, 1), value), fault)

    def test_the_sequence_of_the_faults_of_common_stalls(self):
        ends = ((0, 1), (2, 1))
        told = [((), ("lacks", (0, 0))), (((0, 0), (2, 0)), ("lacks", (1, 0))), (ends, ("not", (0, 1), (2, 1))),
                (((0, 0), (2, 1)), ("not", (2, 1), (0, 1))), (((0, 1), (5, 5)), ("wall", (5, 5))),
                (((5, 5), (0, 1)), ("form",)), (list(CUP), ("form",))]
        for value, fault in told:
            self.assertEqual(fields.judge_common(CUP, ends, value), fault)
        # The least spot that the least wrong stall does not serve.
        self.assertEqual(fields.judge_common(SNAKE, SNAKE, ((0, 4),)), ("not", (0, 4), (0, 0)))
        self.assertEqual(fields.judge_common(SNAKE, SNAKE, ()), None)
        self.assertEqual(fields.judge_common(SNAKE, (), SNAKE[:-1]), ("lacks", (2, 4)))

    def test_changed_ones(self):
        chance = random.Random(48)
        for room in ROOMS:
            for stall in room:
                value = fields.field(room, stall)
                for _ in range(3):
                    value = altered(chance, value)
                    self.assertEqual(fields.judge_field(room, stall, value), told_field_fault(room, stall, value))
            for lot in lots_of(chance, room):
                value = fields.common_stalls(room, lot)
                for _ in range(3):
                    value = altered(chance, value)
                    self.assertEqual(fields.judge_common(room, lot, value), told_common_fault(room, lot, value))
            for _ in range(20):
                value = some_of(chance, room + ((99, 99),), chance.randrange(6))
                lot = some_of(chance, room, 2)
                self.assertEqual(fields.judge_field(room, room[0], value), told_field_fault(room, room[0], value))
                self.assertEqual(fields.judge_common(room, lot, value), told_common_fault(room, lot, value))

    def test_any_value(self):
        for value in some_values():
            before = copy.deepcopy(value)
            self.assertEqual(fields.judge_field(CUP, (0, 1), value), told_field_fault(CUP, (0, 1), value))
            self.assertEqual(fields.judge_common(CUP, CUP, value), told_common_fault(CUP, CUP, value))
            self.assertEqual(value, before)

    def test_lists_for_tuples_and_true_for_1(self):
        many = 0
        for value in of_other_kinds(fields.field(CUP, (0, 1))):
            self.assertEqual(fields.judge_field(CUP, (0, 1), value), ("form",))
            self.assertEqual(fields.judge_common(CUP, CUP, value), ("form",))
            many += 1
        self.assertGreater(many, 8)


class StepByStep(unittest.TestCase):
    def test_gained(self):
        for room in ROOMS + WIDE:
            for one in room:
                for step in "ruld":
                    other = ways.trail(one, step)[1]
                    if other in room:
                        here, there = served(room, one), served(room, other)
                        told = (tuple(sorted(here - there)), tuple(sorted(there - here)))
                        self.assertEqual(fields.gained(room, one, other), told)

    def test_what_is_served_over_a_cell_is_served_by_it(self):
        for room in ROOMS[-40:]:
            for one in room:
                for step in "ruld":
                    other = ways.trail(one, step)[1]
                    for spot, texts in ways_from(room, other).items() if other in room else ():
                        if any(one in ways.trail(other, text) for text in texts):
                            self.assertIn(spot, served(room, one))

    def test_walk_lit(self):
        self.assertEqual(fields.walk_lit(CUP, ()), [])
        for room in ROOMS + WIDE:
            way = ways.last_way(room, room[0], room[-1]) or ""
            cells = ways.trail(room[0], way)
            answer = fields.walk_lit(room, cells + cells[::-1])
            self.assertEqual(answer, [len(served(room, cell)) for cell in cells + cells[::-1]])
            self.assertIs(type(answer), list)


class Kept(unittest.TestCase):
    def test_nothing_passed_is_modified_or_kept(self):
        stalls = [(2, 1), (0, 1), (2, 1)]
        for call in (lambda: fields.lit(CUP, stalls), lambda: fields.dark_in(CUP, CUP, stalls),
                     lambda: fields.serve_all(CUP, CUP, stalls), lambda: fields.alone_served(CUP, stalls[:2])):
            self.assertEqual(call(), call())
            self.assertEqual(stalls, [(2, 1), (0, 1), (2, 1)])

    def test_what_callers_change_stays_their_own(self):
        for call in (lambda: fields.alone_served(CUP, [(0, 1), (2, 1)]), lambda: fields.walk_lit(CUP, CUP[:2])):
            before = copy.deepcopy(call())
            call().append(None)
            call().clear()
            self.assertEqual(call(), before)


if __name__ == "__main__":
    unittest.main()
