"""Part 13: surveys, reports and hooks."""

import copy
import itertools
import random
import unittest

from nodetour import stalls, surveys
from nodetour.rooms import is_lot, is_room, pose_between
from tests import reckon, tries
from tests.drawn import altered, drawn_rooms, of_other_kinds, small_rooms
from tests.support import some_values

SNAKE = ((0, 0), (0, 2), (0, 3), (0, 4), (1, 0), (1, 2), (1, 4), (2, 0), (2, 1), (2, 2), (2, 4))
U, L = ((0, 0), (0, 1), (1, 0), (2, 0), (2, 1)), ((0, 0), (1, 0), (2, 0), (2, 1))
ONE = ((7, -7),)
ROOMS = small_rooms(3, 3)[::4] + drawn_rooms(40, 14) + drawn_rooms(20, 30) + (SNAKE, ONE, surveys.hooks(2))
# The stalls of this one deal the cells so that the lots of spots are not ascending.
PAIR = ((0, 2), (2, 0))
DEALT = (((0, 2), (0, 3), (0, 4), (1, 2), (1, 4), (2, 0), (2, 1), (2, 2), (2, 4)), ((0, 0), (1, 0)))
RIGHT = (2, PAIR, ((0, 0), (2, 4)), DEALT)


class Surveys(unittest.TestCase):
    def test_numbers_and_greatest_fields_by_trying(self):
        told = [(len(room), tries.number_of(room), max(len(reckon.served(room, cell)) for cell in room))
                for room in ROOMS]
        self.assertTrue({1, 2} <= {number for _, number, _ in told})
        for k in range(0, len(ROOMS), 5):
            rooms, part = list(ROOMS[k:k + 5]), told[k:k + 5]
            self.assertEqual(surveys.survey(rooms), part)
            numbers = [number for _, number, _ in part]
            self.assertEqual(surveys.numbers_of(rooms), numbers)
            ranks = surveys.ranked(rooms)
            self.assertEqual(ranks, tuple(sorted(zip(numbers, range(len(rooms))))))
            self.assertEqual([type(one) for one in (surveys.survey(rooms), surveys.numbers_of(rooms), ranks)],
                             [list, list, tuple])
            self.assertEqual(rooms, list(ROOMS[k:k + 5]))

    def test_a_list_without_rooms_and_one_room_twice(self):
        self.assertEqual([surveys.survey([]), surveys.numbers_of([]), surveys.ranked([])], [[], [], ()])
        self.assertEqual(surveys.survey((U, U)), [(5, 1, 5)] * 2)
        self.assertEqual(surveys.ranked([SNAKE, U, SNAKE, U]), ((1, 1), (1, 3), (2, 0), (2, 2)))

    def test_lists_told_are_the_caller_s_own(self):
        for told in (lambda: surveys.survey([U]), lambda: surveys.numbers_of([U]), lambda: surveys.like_rooms(U),
                     lambda: surveys.seen_shares(U, [(0, 1)])):
            before = copy.deepcopy(told())
            told().clear()
            self.assertEqual(told(), before)

    def test_compared(self):
        for one, other in itertools.product(ROOMS[::7] + (SNAKE,), repeat=2):
            difference = tries.number_of(one) - tries.number_of(other)
            self.assertEqual(surveys.compared(one, other), (difference > 0) - (difference < 0))
        self.assertEqual([surveys.compared(*two) for two in ((U, SNAKE), (SNAKE, U), (U, ONE))], [-1, 1, 0])

    def test_shares_seen_and_the_cells_that_serve_the_most(self):
        chance = random.Random(131)
        for room in ROOMS:
            many = {cell: len(reckon.served(room, cell)) for cell in room}
            told = [chance.choice(room) for _ in range(chance.randrange(6))]
            before = list(told)
            self.assertEqual(surveys.seen_shares(room, told), [(cell, many[cell]) for cell in told])
            self.assertEqual(told, before)
            most = tuple(cell for cell in room if many[cell] == max(many.values()))
            self.assertEqual(surveys.most_serving(room), most)
        self.assertEqual([surveys.seen_shares(U, []), surveys.most_serving(ONE)], [[], ONE])


class PutTogether(unittest.TestCase):
    def test_rooms_put_together(self):
        for one, other in itertools.product(ROOMS[::6], ROOMS[::9]):
            (x, y), (u, v) = max(one), min(other)
            moved = tuple((a + x + 1 - u, b + y - v) for a, b in other)
            both = surveys.put_together(one, other)
            self.assertEqual(both, one + moved)
            self.assertTrue(is_lot(both) and tries.is_room(both))
            touching = [(here, there) for here in one for there in moved
                        if abs(here[0] - there[0]) + abs(here[1] - there[1]) == 1]
            self.assertEqual(touching, [((x, y), (x + 1, y))])
            numbers = [stalls.fewest(room, room) for room in (one, other, both)]
            self.assertLessEqual(numbers[2], numbers[0] + numbers[1])

    def test_like_rooms(self):
        for room in ROOMS:
            told = surveys.like_rooms(room)
            self.assertEqual(told, [("mirrored", tuple(sorted((-x, y) for x, y in room))),
                                    ("turned", tuple(sorted((-y, x) for x, y in room))),
                                    ("shifted", tuple((x + 3, y - 2) for x, y in room))])
            for _, other in told:
                self.assertIsNotNone(pose_between(room, other))
                self.assertEqual(surveys.compared(room, other), 0)


class Hooks(unittest.TestCase):
    def test_cells(self):
        bars = {(x, y) for x in range(5) for y in (0, 2)}
        self.assertEqual(surveys.hooks(1), tuple(sorted(bars | {(4, 1)})))
        bars |= {(x, y) for x in range(5) for y in (4, 6)}
        self.assertEqual(surveys.hooks(2), tuple(sorted(bars | {(4, 1), (0, 3), (4, 5)})))
        self.assertEqual([cell for cell in surveys.hooks(3) if cell[1] % 2],
                         [(0, 3), (0, 7), (4, 1), (4, 5), (4, 9)])

    def test_they_need_just_so_many(self):
        for k in range(1, 5):
            room = surveys.hooks(k)
            self.assertTrue(is_room(room))
            self.assertEqual(surveys.numbers_of([room]), [k])
            answer = tuple((4, 4 * j + 1) for j in range(k)), tuple((1, 4 * j) for j in range(k))
            self.assertIsNone(stalls.judge_answer(room, room, answer))


def lots_for(room, told):
    """Return, for each stall, the lot of what it serves and no stall ahead of it does."""
    ahead, lots = set(), []
    for stall in told:
        lots.append(tuple(sorted(reckon.served(room, stall) - ahead)))
        ahead |= reckon.served(room, stall)
    return tuple(lots)


def kinds_of(value):
    """Return the classes of a value and of all within it."""
    return (type(value), [kinds_of(part) for part in value] if isinstance(value, (tuple, list)) else value)


def told_fault(room, value):
    """Return the first fault of a value as a report, point by point."""
    if type(value) is not tuple or len(value) != 4 or type(value[0]) is not int:
        return ("form",)
    fault = stalls.judge_answer(room, room, value[1:3])
    if fault is not None:
        return ("answer", fault)
    if value[0] != len(value[1]):
        return ("number",)
    return None if kinds_of(value[3]) == kinds_of(lots_for(room, value[1])) else ("lots",)


class Reports(unittest.TestCase):
    def test_reports(self):
        for room in ROOMS:
            number, told, spots, lots = surveys.report(room)
            self.assertEqual([number, len(told), len(spots)], [tries.number_of(room)] * 3)
            self.assertIsNone(stalls.judge_answer(room, room, (told, spots)))
            self.assertEqual(lots, lots_for(room, told))
            self.assertEqual(sorted(cell for lot in lots for cell in lot), list(room))
            self.assertIsNone(surveys.judge_report(room, surveys.report(room)))

    def test_right_reports_that_are_not_report_s_own(self):
        let = set()
        for told in itertools.combinations(SNAKE, 2):
            for spots in (((0, 0), (2, 4)), ((1, 0), (1, 4)), ((0, 0), (1, 4))):
                value = (2, told, spots, lots_for(SNAKE, told))
                right = reckon.serve(SNAKE, told, SNAKE)
                self.assertIs(surveys.judge_report(SNAKE, value) is None, right)
                if right:
                    let.add(value)
        self.assertEqual(len(let), 3 * 21)
        self.assertIn(RIGHT, let)

    def test_the_sequence_of_the_faults(self):
        number, told, spots, lots = RIGHT
        wrong = ((0, 2),), ((0, 0), (0, 2)), lots[::-1]
        cases = [(RIGHT, None), ((0, wrong[0], wrong[1], wrong[2]), ("answer", ("dark", (0, 0)))),
                 ((None, wrong[0], wrong[1], wrong[2]), ("form",)), ((0, told, wrong[1], wrong[2]),
                                                                     ("answer", ("tied", (0, 0), (0, 2)))),
                 ((0, told, spots, wrong[2]), ("number",)), ((number, told, spots, wrong[2]), ("lots",)),
                 ((number, told, spots, lots[:1]), ("lots",)), ((number, told, spots, lots + ((),)), ("lots",)),
                 ((number, told, spots, ()), ("lots",)), ((number, told, spots, None), ("lots",)),
                 ((number, told, spots[:1], lots), ("answer", ("many", 2, 1))),
                 ((1, told, spots[:1], lots), ("answer", ("many", 2, 1))), ((1, told, spots, lots), ("number",)),
                 ((-2, told, spots, lots), ("number",)), ((number, list(told), spots, lots), ("answer", ("form",))),
                 ((number, told, spots, list(lots)), ("lots",)), (list(RIGHT), ("form",)), (RIGHT[:3], ("form",)),
                 (RIGHT + ((),), ("form",)), ((), ("form",)), ((number, told, ((9, 9),), lots), ("answer", ("form",)))]
        for value, fault in cases:
            self.assertEqual(surveys.judge_report(SNAKE, value), fault, value)

    def test_a_number_that_is_a_lot_and_true_for_1(self):
        right = (1, ((1, 0),), ((0, 1),), (U,))
        self.assertIsNone(surveys.judge_report(U, right))
        self.assertEqual(surveys.judge_report(U, (((1, 0),),) + right[1:]), ("form",))
        self.assertEqual(surveys.judge_report(U, (True,) + right[1:]), ("form",))
        self.assertEqual(surveys.judge_report(U, ("1",) + right[1:]), ("form",))
        self.assertEqual(surveys.judge_report(U, (1, ((True, 0),), ((0, 1),), (U,))), ("answer", ("form",)))
        self.assertEqual(surveys.judge_report(U, (1, ((1, 0),), ((0, True),), (U,))), ("answer", ("form",)))
        self.assertEqual(surveys.judge_report(U, (1, ((1, 0),), ((0, 1),), (((False, 0),) + U[1:],))), ("lots",))
        for room, value in ((U, right), (SNAKE, RIGHT)):
            for other in of_other_kinds(value):
                self.assertEqual(surveys.judge_report(room, other), told_fault(room, other))
                self.assertIsNotNone(surveys.judge_report(room, other))

    def test_changed_reports(self):
        chance = random.Random(132)
        kinds = set()
        for room in ROOMS:
            value = surveys.report(room)
            for _ in range(6):
                before = copy.deepcopy(value)
                fault = told_fault(room, value)
                self.assertEqual(surveys.judge_report(room, value), fault)
                self.assertEqual(value, before)
                kinds.add((fault or (None,))[0])
                value = altered(chance, value)
                # Of four parts most changes leave the first three as they were.
                own = surveys.report(room)
                other = own[:3] + (altered(chance, own[3]),)
                self.assertEqual(surveys.judge_report(room, other), told_fault(room, other))
        self.assertEqual(kinds, {None, "form", "answer", "number", "lots"})

    def test_any_value(self):
        number, told, spots, lots = RIGHT
        for value in some_values():
            for other in (value, (value,) + RIGHT[1:], (number, value, spots, lots), (number, told, value, lots),
                          RIGHT[:3] + (value,)):
                self.assertEqual(surveys.judge_report(SNAKE, other), told_fault(SNAKE, other))


if __name__ == "__main__":
    unittest.main()
