"""Part 7: fewest stalls."""

import copy
import random
import unittest

from nodetour import stalls, ways
from nodetour.rooms import is_lot
from tests import reckon
from tests.drawn import altered, drawn_rooms, of_other_kinds, small_rooms, some_of
from tests.support import some_values

SNAKE = ((0, 0), (0, 2), (0, 3), (0, 4), (1, 0), (1, 2), (1, 4), (2, 0), (2, 1), (2, 2), (2, 4))
STALLS, APART = ((0, 2), (2, 0)), ((0, 0), (2, 4))
ONE = ((7, -7),)
# In this one three stalls are needed: bars joined at their ends by turns.
HOOKS = tuple(sorted([(x, 2 * j) for x in range(5) for j in range(6)]
                     + [(4, 1), (0, 3), (4, 5), (0, 7), (4, 9)]))
ROOMS = small_rooms(3, 3)[::3] + drawn_rooms(40, 14) + drawn_rooms(20, 30) + (SNAKE, HOOKS, ONE)
WIDE = drawn_rooms(60, 60) + (HOOKS,)


def lots_of(chance, room):
    """Return some lots of spots of a room, () and all of it, too."""
    return [(), room] + [some_of(chance, room, many) for many in (1, 2, 4, 7, 12)]


def some_stalls(chance, room):
    """Return a tuple of unlike stalls in any sequence that serve the whole room, more than needed."""
    told = []
    while not reckon.serve(room, told, room):
        told.append(chance.choice([cell for cell in room if cell not in told]))
    return tuple(told)


class Answers(unittest.TestCase):
    def test_answers_are_fewest_and_most_by_trying(self):
        chance = random.Random(81)
        numbers = set()
        for room in ROOMS:
            for lot in lots_of(chance, room):
                answer = stalls.answer_for(room, lot)
                self.assertIsNone(told_answer_fault(room, lot, answer))
                self.assertIsNone(stalls.judge_answer(room, lot, answer))
                many = reckon.fewest_stalls(room, lot)
                self.assertEqual([len(answer[0]), len(answer[1]), stalls.fewest(room, lot),
                                  reckon.most_apart(room, lot)],
                                 [many] * 4)
                numbers.add(many)
            self.assertEqual(stalls.answer(room), stalls.answer_for(room, room))
        self.assertTrue({0, 1, 2, 3} <= numbers)

    def test_larger_rooms(self):
        chance = random.Random(82)
        numbers = set()
        for room in WIDE:
            for lot in (room, some_of(chance, room, 20)):
                answer = stalls.answer_for(room, lot)
                self.assertIsNone(told_answer_fault(room, lot, answer))
                self.assertEqual(stalls.fewest(room, lot), len(answer[0]))
                numbers.add(len(answer[0]))
        self.assertTrue({1, 2, 3, 4} <= numbers)

    def test_edges(self):
        for room in (ONE, SNAKE, HOOKS):
            self.assertEqual([stalls.answer_for(room, ()), stalls.fewest(room, ())], [((), ()), 0])
        self.assertEqual([stalls.answer(ONE), stalls.fewest(ONE, ONE)], [(ONE, ONE), 1])
        self.assertEqual([stalls.fewest(SNAKE, SNAKE), stalls.fewest(HOOKS, HOOKS)], [2, 3])
        self.assertEqual([stalls.fewest(SNAKE, (spot,)) for spot in SNAKE], [1] * 11)

    def test_one_spot_more_and_two_lots_together(self):
        chance = random.Random(83)
        for room in WIDE + drawn_rooms(60, 30):
            one, other = some_of(chance, room, 8), some_of(chance, room, 8)
            both = stalls.fewest(room, tuple(sorted(set(one + other))))
            apart = [stalls.fewest(room, one), stalls.fewest(room, other)]
            self.assertTrue(max(apart) <= both <= sum(apart))
            spot = chance.choice(room)
            self.assertIn(stalls.fewest(room, tuple(sorted(set(one + (spot,))))) - apart[0], (0, 1))


def told_answer_fault(room, lot, value):
    """Return the first fault of a value as an answer, point by point."""
    if type(value) is not tuple or len(value) != 2 or not all(is_lot(part) and set(part) <= set(room)
                                                              for part in value):
        return ("form",)
    fault = told_stalls_fault(room, lot, value[0]) or told_spots_fault(room, lot, value[1])
    many = len(value[0]), len(value[1])
    return fault or (None if many[0] == many[1] else ("many",) + many)


def told_stalls_fault(room, lot, value):
    if not is_lot(value) or not set(value) <= set(room):
        return ("form",)
    dark = [spot for spot in lot if not reckon.serve(room, value, (spot,))]
    return ("dark", min(dark)) if dark else None


def told_spots_fault(room, lot, value):
    if not is_lot(value) or not set(value) <= set(room):
        return ("form",)
    if set(value) - set(lot):
        return ("foreign", min(set(value) - set(lot)))
    pair = reckon.first_tied(room, value)
    return None if pair is None else ("tied",) + pair


class Judges(unittest.TestCase):
    def test_the_sequence_of_the_faults(self):
        told = [((STALLS, APART), None), ((STALLS, ((1, 0), (1, 4))), None), (((), APART), ("dark", (0, 0))),
                (((), ((0, 0), (0, 2))), ("dark", (0, 0))), (((STALLS[0],), ((0, 0), (0, 2))), ("dark", (0, 0))),
                (((STALLS[1],), ()), ("dark", (1, 4))), ((STALLS, ()), ("many", 2, 0)),
                ((STALLS, ((0, 0), (0, 2))), ("tied", (0, 0), (0, 2))),
                ((STALLS, ((0, 0), (1, 0), (1, 4))), ("tied", (0, 0), (1, 0))),
                ((SNAKE, APART), ("many", 11, 2)), (((STALLS[0],), ((9, 9),)), ("form",)),
                ((STALLS + ((9, 9),), APART), ("form",)), ((STALLS[::-1], APART), ("form",)),
                ((STALLS, APART[::-1]), ("form",)), ((STALLS, (APART[0],) * 2), ("form",)), ((STALLS,), ("form",)),
                ((STALLS, APART, ()), ("form",)), ([STALLS, APART], ("form",)), ((list(STALLS), APART), ("form",))]
        for value, fault in told:
            self.assertEqual(stalls.judge_answer(SNAKE, SNAKE, value), fault, value)
        lot = ((0, 0), (1, 0), (2, 4))
        told = [((STALLS, APART), None), ((STALLS, ((0, 0), (1, 4))), ("foreign", (1, 4))),
                ((STALLS, ((0, 2), (1, 4))), ("foreign", (0, 2))),
                ((STALLS, ((0, 0), (0, 2), (1, 0))), ("foreign", (0, 2))),
                (((STALLS[1],), ((1, 4),)), ("dark", (2, 4))), ((STALLS, ((1, 0),)), ("many", 2, 1))]
        for value, fault in told:
            self.assertEqual(stalls.judge_answer(SNAKE, lot, value), fault, value)
        self.assertIsNone(stalls.judge_answer(SNAKE, (), ((), ())))
        self.assertEqual(stalls.judge_answer(SNAKE, (), (((0, 0),), ())), ("many", 1, 0))
        self.assertEqual(stalls.judge_answer(SNAKE, (), ((), ((0, 0),))), ("foreign", (0, 0)))

    def test_fewer_of_both_that_are_as_many_are_no_answer(self):
        # More stalls than needed, and the spots too few: both are told by their numbers alone.
        more = ((0, 2), (2, 0), (2, 4))
        self.assertEqual(stalls.judge_answer(SNAKE, SNAKE, (more, APART)), ("many", 3, 2))
        self.assertIsNone(stalls.judge_stalls(SNAKE, SNAKE, more))
        self.assertIsNone(stalls.judge_spots(SNAKE, SNAKE, ()))

    def test_half_papers(self):
        told = [(STALLS, None), (SNAKE, None), ((), ("dark", (0, 0))), ((STALLS[0],), ("dark", (0, 0))),
                ((STALLS[1],), ("dark", (1, 4))), (((9, 9),), ("form",)), (STALLS[::-1], ("form",)),
                (list(STALLS), ("form",)), (None, ("form",))]
        for value, fault in told:
            self.assertEqual(stalls.judge_stalls(SNAKE, SNAKE, value), fault)
        lot = ((0, 0), (0, 2), (2, 4))
        told = [(APART, None), ((), None), (lot, ("tied", (0, 0), (0, 2))), (((0, 0), (1, 0)), ("foreign", (1, 0))),
                (((0, 0), (0, 2), (1, 4)), ("foreign", (1, 4))), (((5, 5),), ("form",)), (APART[::-1], ("form",)),
                (list(APART), ("form",)), ("", ("form",))]
        for value, fault in told:
            self.assertEqual(stalls.judge_spots(SNAKE, lot, value), fault)
        self.assertEqual([stalls.judge_stalls(SNAKE, (), ()), stalls.judge_spots(SNAKE, (), ())], [None, None])

    def test_changed_answers(self):
        chance = random.Random(84)
        kinds = set()
        for room in ROOMS + WIDE[:20]:
            for lot in lots_of(chance, room):
                answer = stalls.answer_for(room, lot)
                value = answer
                for _ in range(3):
                    value = altered(chance, value)
                    fault = told_answer_fault(room, lot, value)
                    self.assertEqual(stalls.judge_answer(room, lot, value), fault)
                    kinds.add((fault or (None,))[0])
                value = (answer[0], some_of(chance, room, 3))
                self.assertEqual(stalls.judge_answer(room, lot, value), told_answer_fault(room, lot, value))
                for part in (some_of(chance, room, 3), altered(chance, answer[0]), altered(chance, answer[1])):
                    self.assertEqual(stalls.judge_stalls(room, lot, part), told_stalls_fault(room, lot, part))
                    self.assertEqual(stalls.judge_spots(room, lot, part), told_spots_fault(room, lot, part))
        self.assertEqual(kinds, {None, "form", "dark", "foreign", "tied", "many"})

    def test_spots_let_are_no_more_than_stalls_let(self):
        chance = random.Random(85)
        both = 0
        for room in ROOMS:
            lot = some_of(chance, room, 8)
            for _ in range(10):
                some, spots = some_of(chance, room, 3), some_of(chance, lot, 3)
                if stalls.judge_stalls(room, lot, some) is None and stalls.judge_spots(room, lot, spots) is None:
                    self.assertLessEqual(len(spots), len(some))
                    both += 1
        self.assertGreater(both, 50)

    def test_any_value(self):
        for value in some_values() + [((), ()), ((), []), ((0, 0), (0, 0))]:
            before = copy.deepcopy(value)
            self.assertEqual(stalls.judge_answer(SNAKE, SNAKE, value), told_answer_fault(SNAKE, SNAKE, value))
            self.assertEqual(stalls.judge_stalls(SNAKE, SNAKE, value), told_stalls_fault(SNAKE, SNAKE, value))
            self.assertEqual(stalls.judge_spots(SNAKE, SNAKE, value), told_spots_fault(SNAKE, SNAKE, value))
            self.assertEqual(value, before)

    def test_lists_for_tuples_and_true_for_1(self):
        for value in of_other_kinds((STALLS, ((1, 0), (1, 4)))):
            self.assertEqual(stalls.judge_answer(SNAKE, SNAKE, value), ("form",))
        for value in of_other_kinds(((0, 0), (1, 0))):
            self.assertEqual(stalls.judge_stalls(SNAKE, SNAKE, value), ("form",))
            self.assertEqual(stalls.judge_spots(SNAKE, SNAKE, value), ("form",))


def told_plan_fault(room, told, lot, value):
    """Return the first fault of a value as a plan, point by point."""
    if type(value) is not tuple or len(value) != len(lot):
        return ("form",)
    for pair in value:
        if type(pair) is not tuple or len(pair) != 2 or type(pair[0]) is not int or type(pair[1]) is not str:
            return ("form",)
        if pair[0] not in range(len(told)):
            return ("form",)
    for k, (number, text) in enumerate(value):
        if text not in reckon.ways_from(room, told[number]).get(lot[k], []):
            return ("way", k)
    return None


class WhoServesWhom(unittest.TestCase):
    def test_served_by_dealt_and_plans(self):
        chance = random.Random(86)
        for room in ROOMS:
            for lot in lots_of(chance, room):
                told = some_stalls(chance, room)
                numbers = {}
                for spot in room:
                    numbers[spot] = tuple(k for k, stall in enumerate(told) if spot in reckon.served(room, stall))
                    self.assertEqual(stalls.served_by(room, told, spot), numbers[spot])
                parts = tuple(tuple(spot for spot in lot if numbers[spot][0] == k) for k in range(len(told)))
                self.assertEqual(stalls.dealt(room, told, lot), parts)
                plan = stalls.plan_for(room, told, lot)
                self.assertEqual(plan, tuple((numbers[spot][0], reckon.ways_from(room, told[numbers[spot][0]])[spot][0])
                                             for spot in lot))
                self.assertIsNone(stalls.judge_plan(room, told, lot, plan))

    def test_edges(self):
        self.assertEqual([stalls.served_by(SNAKE, (), (0, 0)), stalls.served_by(SNAKE, ((0, 4),), (0, 0))], [(), ()])
        self.assertEqual([stalls.dealt(SNAKE, (), ()), stalls.dealt(SNAKE, STALLS, ())], [(), ((), ())])
        self.assertEqual([stalls.plan_for(SNAKE, STALLS, ()), stalls.judge_plan(SNAKE, STALLS, (), ())], [(), None])
        self.assertEqual(stalls.plan_for(ONE, ONE, ONE), ((0, ""),))
        # In any sequence: the first one in the tuple, not the least cell.
        self.assertEqual(stalls.dealt(SNAKE, STALLS[::-1], ((1, 2),)), (((1, 2),), ()))
        self.assertEqual(stalls.plan_for(SNAKE, STALLS[::-1], ((1, 2),)), ((0, "uul"),))

    def test_the_sequence_of_the_faults_of_plans(self):
        told = [(((1, "ll"), (0, "uurr")), None), (((1, "ll"), (0, "rr")), ("way", 1)),
                (((0, "ll"), (0, "x")), ("way", 0)),
                (((1, ""), (0, "uurr")), ("way", 0)), (((1, "llrl"), (0, "uurr")), ("way", 0)),
                (((1, "ll"), (2, "uurr")), ("form",)), (((1, "ll"), (-1, "uurr")), ("form",)),
                (((1, "ll"),), ("form",)),
                (((1, "ll"), (0, "uurr"), (0, "")), ("form",)), (((0, "x"), (0, None)), ("form",)),
                (((1, "ll"), (0, "uurr", 1)), ("form",)), (((1, "ll"), (0,)), ("form",)),
                (((1, "ll"), "0u"), ("form",)),
                (((True, "ll"), (0, "uurr")), ("form",)), (((1, "ll"), (False, "uurr")), ("form",)),
                ([(1, "ll"), (0, "uurr")], ("form",)), (([1, "ll"], (0, "uurr")), ("form",)), ((), ("form",))]
        for value, fault in told:
            self.assertEqual(stalls.judge_plan(SNAKE, STALLS, APART, value), fault, value)

    def test_any_stall_and_any_way(self):
        block = tuple((x, y) for x in range(3) for y in range(3))
        for number in (0, 1):
            for way in reckon.ways_from(block, block[number])[(2, 2)]:
                self.assertIsNone(stalls.judge_plan(block, block[:2], ((2, 2),), ((number, way),)))

    def test_changed_plans_and_any_value(self):
        chance = random.Random(87)
        for room in ROOMS[::2]:
            told, lot = some_stalls(chance, room), some_of(chance, room, 5)
            value = stalls.plan_for(room, told, lot)
            for _ in range(6):
                self.assertEqual(stalls.judge_plan(room, told, lot, value), told_plan_fault(room, told, lot, value))
                value = altered(chance, value)
        for value in some_values():
            before = copy.deepcopy(value)
            self.assertEqual(stalls.judge_plan(SNAKE, STALLS, APART, value),
                             told_plan_fault(SNAKE, STALLS, APART, value))
            self.assertEqual(value, before)
        for value in of_other_kinds(((1, "ll"), (0, "uurr"))):
            self.assertEqual(stalls.judge_plan(SNAKE, STALLS, APART, value), ("form",))

    def test_plans_of_answers(self):
        for room in WIDE[:20]:
            told = stalls.answer(room)[0]
            plan = stalls.plan_for(room, told, room)
            self.assertIsNone(stalls.judge_plan(room, told, room, plan))
            for spot, (number, way) in zip(room, plan):
                self.assertTrue(ways.is_way(room, told[number], spot, way))
            self.assertEqual(sorted(spot for part in stalls.dealt(room, told, room) for spot in part), list(room))


if __name__ == "__main__":
    unittest.main()
