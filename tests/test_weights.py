"""Part 9: spots that weigh more."""

import copy
import itertools
import random
import unittest

from nodetour import fields, stalls, weights
from nodetour.rooms import is_cell, is_lot
from tests import reckon
from tests.drawn import altered, drawn_rooms, of_other_kinds, small_rooms, some_of
from tests.support import BIG, some_values

SNAKE = ((0, 0), (0, 2), (0, 3), (0, 4), (1, 0), (1, 2), (1, 4), (2, 0), (2, 1), (2, 2), (2, 4))
W, SET = (((0, 0), 2), ((1, 2), 1), ((2, 4), 3)), (((0, 2), 3), ((2, 0), 2))
ONE = ((7, -7),)
TINY = small_rooms(3, 3)[::9] + tuple(room for room in drawn_rooms(120, 14) if len(room) < 10)[:12] + (SNAKE, ONE)
ROOMS = TINY + drawn_rooms(40, 30)


def drawn_weights(chance, room, most, spots):
    """Return weights of up to so many spots, some of them 0, with up to so much in all."""
    told = {spot: 0 for spot in some_of(chance, room, spots)}
    for _ in range(chance.randrange(most + 1) if told else 0):
        told[chance.choice(sorted(told))] += 1
    return tuple(sorted(told.items()))


def weights_of(chance, room):
    """Return some weights, () and such that are all 0, too."""
    told = [(), tuple((cell, 0) for cell in room[:4]), tuple((cell, 1) for cell in room)]
    sizes = ((3, 2), (6, 4), (9, 5), (20, 8), (60, 30))
    return told + [drawn_weights(chance, room, most, spots) for most, spots in sizes]


def is_integer(value):
    return type(value) is int


def told_weights_fault(room, value):
    """Return the first fault of a value as weights, kind by kind."""
    if type(value) is not tuple:
        return ("form",)
    for pair in value:
        if type(pair) is not tuple or len(pair) != 2 or not is_cell(pair[0]) or not is_integer(pair[1]) or pair[1] < 0:
            return ("form",)
    for k, (cell, w) in enumerate(value):
        if cell not in room:
            return ("cell", k)
    for k, (one, other) in enumerate(zip(value, value[1:])):
        if not one[0] < other[0]:
            return ("ascend", k + 1)
    return None


class Weights(unittest.TestCase):
    def test_the_sequence_of_the_faults(self):
        told = [((), None), (W, None), ((((0, 0), 0),), None), ((((0, 0), BIG),), None), ((((0, 1), 1),), ("cell", 0)),
                ((((0, 0), 1), ((0, 1), 1), ((9, 9), 1)), ("cell", 1)), ((((1, 0), 1), ((0, 0), 1)), ("ascend", 1)),
                ((((0, 0), 1), ((0, 0), 1)), ("ascend", 1)), (W + W, ("ascend", 3)),
                ((((1, 0), 1), ((0, 0), 1), ((9, 9), 1)), ("cell", 2)),
                ((((1, 0), 1), ((0, 0), 1), ((9, 9), -1)), ("form",)),
                ((((0, 1), 1), ((0, 0), True)), ("form",)), ((((True, 0), 1),), ("form",)),
                ((((0, 0), 1, 1),), ("form",)),
                ((((0, 0),),), ("form",)), (([(0, 0), 1],), ("form",)), ((([0, 0], 1),), ("form",)),
                (list(W), ("form",)),
                (dict(W), ("form",)), (((0, 0), 1), ("form",)), ((((0, 0), "1"),), ("form",)),
                ((((0, 0), None),), ("form",))]
        for value, fault in told:
            self.assertEqual(weights.judge_weights(SNAKE, value), fault, value)
            self.assertIs(weights.is_weights(SNAKE, value), fault is None)

    def test_changed_ones_and_any_value(self):
        chance = random.Random(111)
        for room in ROOMS:
            for value in weights_of(chance, room):
                for _ in range(4):
                    fault = told_weights_fault(room, value)
                    self.assertEqual(weights.judge_weights(room, value), fault)
                    self.assertIs(weights.is_weights(room, value), fault is None)
                    value = altered(chance, value)
        for value in some_values():
            before = copy.deepcopy(value)
            for told in (value, (value,), (((0, 0), value),), ((value, 1),)):
                self.assertEqual(weights.judge_weights(SNAKE, told), told_weights_fault(SNAKE, told))
                self.assertIs(weights.is_weights(SNAKE, told), told_weights_fault(SNAKE, told) is None)
            self.assertEqual(value, before)
        for value in of_other_kinds(W):
            self.assertEqual(weights.judge_weights(SNAKE, value), ("form",))

    def test_single_ones(self):
        self.assertEqual([weights.weight_of(W, cell) for cell in ((0, 0), (1, 2), (2, 4), (9, 9))], [2, 1, 3, 0])
        self.assertEqual([weights.weight_of((), (0, 0)), weights.weight_of((((0, 0), 0),), (0, 0))], [0, 0])
        self.assertEqual([weights.whole_weight(()), weights.whole_weight(W), weights.whole_weight((((0, 0), 0),))],
                         [0, 6, 0])
        self.assertEqual([weights.burden(W, ()), weights.burden((), ((0, 0),)),
                          weights.burden(W, ((0, 0), (0, 2), (2, 4)))], [0, 0, 5])

    def test_pairs_with_0_stay_and_are_put_in(self):
        self.assertEqual([weights.even_weights((), 3), weights.even_weights(((0, 0), (1, 0)), 0),
                          weights.even_weights(ONE, 4)],
                         [(), (((0, 0), 0), ((1, 0), 0)), ((ONE[0], 4),)])
        self.assertEqual([weights.times_weights(W, 0), weights.times_weights(W, 1), weights.times_weights((), 5),
                          weights.times_weights((((0, 0), 0), ((1, 0), 2)), 3)],
                         [(((0, 0), 0), ((1, 2), 0), ((2, 4), 0)), W, (), (((0, 0), 0), ((1, 0), 6))])
        zero = (((0, 0), 0), ((2, 2), 0))
        self.assertEqual([weights.weights_sum((), ()), weights.weights_sum(zero, ()), weights.weights_sum((), zero),
                          weights.weights_sum(zero, (((0, 2), 0), ((2, 2), 7)))],
                         [(), zero, zero, (((0, 0), 0), ((0, 2), 0), ((2, 2), 7))])
        self.assertEqual([weights.heavier((), (1, 0), 0), weights.heavier(W, (1, 0), 0), weights.heavier(W, (1, 2), 0),
                          weights.heavier(W, (9, 9), 2)],
                         [(((1, 0), 0),), (((0, 0), 2), ((1, 0), 0), ((1, 2), 1), ((2, 4), 3)), W, W + (((9, 9), 2),)])

    def test_sums_times_and_heavier_ones(self):
        chance = random.Random(112)
        for room in ROOMS:
            for one, other in zip(weights_of(chance, room), reversed(weights_of(chance, room))):
                cells = sorted({cell for cell, w in one + other})
                told = tuple((cell, dict(one).get(cell, 0) + dict(other).get(cell, 0)) for cell in cells)
                self.assertEqual(weights.weights_sum(one, other), told)
                self.assertEqual(weights.whole_weight(told), weights.whole_weight(one) + weights.whole_weight(other))
                k, spot = chance.randrange(13), chance.choice(room)
                self.assertEqual(weights.times_weights(one, k), tuple((cell, w * k) for cell, w in one))
                told = dict(one)
                told[spot] = told.get(spot, 0) + k
                self.assertEqual(weights.heavier(one, spot, k), tuple(sorted(told.items())))
                for cell in room:
                    self.assertEqual(weights.weight_of(one, cell), dict(one).get(cell, 0))


def times(room, setting, spot):
    """Return how many stalls of a setting serve a spot, looked at one by one."""
    stalls_there = [stall for stall, n in setting for _ in range(n)]
    return sum(spot in reckon.served(room, stall) for stall in stalls_there)


def told_setting_fault(room, told, value):
    """Return the first fault of a value as a setting, point by point."""
    if type(value) is not tuple:
        return ("form",)
    for pair in value:
        if type(pair) is not tuple or len(pair) != 2 or not is_cell(pair[0]) or not is_integer(pair[1]) or pair[1] < 1:
            return ("form",)
    cells = [cell for cell, n in value]
    if cells != sorted(set(cells)) or not set(cells) <= set(room):
        return ("form",)
    for spot, w in told:
        if times(room, value, spot) < w:
            return ("short", spot, times(room, value, spot))
    return None


def told_apart_fault(room, told, value):
    """Return the first fault of a value as a lot apart, point by point."""
    if not is_lot(value) or not set(value) <= {cell for cell, w in told}:
        return ("form",)
    pair = reckon.first_tied(room, value)
    return ("tied",) + pair if pair else None


def told_weighted_fault(room, told, value):
    """Return the first fault of a value as a weighted answer, point by point."""
    if type(value) is not tuple or len(value) != 2:
        return ("form",)
    for word, fault in (("setting", told_setting_fault(room, told, value[0])),
                        ("lot", told_apart_fault(room, told, value[1]))):
        if fault:
            return (word, fault)
    more = sum(n for stall, n in value[0]) - sum(dict(told)[spot] for spot in value[1])
    return ("sum", more) if more else None


class Settings(unittest.TestCase):
    def test_sizes_and_times(self):
        chance = random.Random(113)
        self.assertEqual([weights.size_of(()), weights.size_of(SET), weights.times_served(SNAKE, (), (0, 0))],
                         [0, 5, 0])
        for room in ROOMS:
            setting = tuple((cell, chance.randrange(1, 5)) for cell in some_of(chance, room, 6))
            self.assertEqual(weights.size_of(setting), sum(n for cell, n in setting))
            for spot in room:
                self.assertEqual(weights.times_served(room, setting, spot), times(room, setting, spot))

    def test_the_sequence_of_the_faults(self):
        told = [(SET, None), ((), ("short", (0, 0), 0)), ((((0, 2), 3), ((2, 0), 1)), ("short", (0, 0), 1)),
                ((((0, 2), 2), ((2, 0), 2)), ("short", (2, 4), 2)), ((((0, 2), 2), ((2, 0), 1)), ("short", (0, 0), 1)),
                ((((0, 0), 2), ((2, 4), 3)), ("short", (1, 2), 0)), ((((1, 4), 3), ((2, 1), 2)), None),
                ((((0, 2), BIG), ((2, 0), BIG)), None), ((((0, 2), 0), ((2, 0), 2)), ("form",)),
                ((((0, 2), -1), ((2, 0), 2)), ("form",)), (SET[::-1], ("form",)), (SET + SET[1:], ("form",)),
                (SET + (((9, 9), 1),), ("form",)), ((((0, 1), 3),), ("form",)), (list(SET), ("form",)),
                ((list(SET[0]), SET[1]), ("form",)), ((((0, 2), True), ((2, 0), 2)), ("form",)),
                ((((0, 2),),), ("form",)),
                ((((0, 2), 3, 1),), ("form",)), (SET[0], ("form",)), (None, ("form",)), (dict(SET), ("form",))]
        for value, fault in told:
            self.assertEqual(weights.judge_setting(SNAKE, W, value), fault, value)
        self.assertEqual([weights.judge_setting(SNAKE, (), ()), weights.judge_setting(SNAKE, (((0, 0), 0),), ())],
                         [None] * 2)

    def test_short_by_one(self):
        chance = random.Random(114)
        for room in ROOMS:
            for told in weights_of(chance, room):
                setting = weights.weighted_answer(room, told)[0]
                self.assertIsNone(told_setting_fault(room, told, setting))
                for k, (stall, n) in enumerate(setting):
                    less = setting[:k] + (((stall, n - 1),) if n > 1 else ()) + setting[k + 1:]
                    fault = told_setting_fault(room, told, less)
                    self.assertEqual(fault[0], "short")
                    self.assertEqual(weights.judge_setting(room, told, less), fault)

    def test_changed_ones_and_any_value(self):
        chance = random.Random(115)
        for room in ROOMS:
            for told in weights_of(chance, room):
                value = weights.weighted_answer(room, told)[0]
                for _ in range(4):
                    value = altered(chance, value)
                    self.assertEqual(weights.judge_setting(room, told, value), told_setting_fault(room, told, value))
        for value in some_values():
            before = copy.deepcopy(value)
            for part in (value, (value,), ((value, 1),), (((0, 0), value),)):
                self.assertEqual(weights.judge_setting(SNAKE, (), part), told_setting_fault(SNAKE, (), part))
            self.assertEqual(value, before)
        for value in of_other_kinds((((0, 2), 3), ((2, 0), 2), ((2, 1), 1))):
            self.assertEqual(weights.judge_setting(SNAKE, W, value), ("form",))


class Apart(unittest.TestCase):
    def test_the_sequence_of_the_faults(self):
        told = [((), None), (((0, 0),), None), (((0, 0), (2, 4)), None), (((0, 0), (1, 2)), ("tied", (0, 0), (1, 2))),
                (((1, 2), (2, 4)), ("tied", (1, 2), (2, 4))), (((0, 0), (1, 2), (2, 4)), ("tied", (0, 0), (1, 2))),
                (((2, 2),), ("form",)), (((0, 0), (1, 2), (2, 2)), ("form",)), (((2, 4), (0, 0)), ("form",)),
                (((0, 0), (0, 0)), ("form",)), ([(0, 0)], ("form",)), (([0, 0],), ("form",)),
                (((False, 0),), ("form",)),
                (W, ("form",)), (None, ("form",)), ("", ("form",))]
        for value, fault in told:
            self.assertEqual(weights.judge_apart(SNAKE, W, value), fault, value)
        # Spots that stand there with 0 are spots of the weights.
        self.assertIsNone(weights.judge_apart(SNAKE, (((0, 0), 0), ((2, 4), 0)), ((0, 0), (2, 4))))
        self.assertEqual([weights.judge_apart(SNAKE, (), ()), weights.judge_apart(SNAKE, (), ((0, 0),))],
                         [None, ("form",)])

    def test_drawn_lots_and_any_value(self):
        chance = random.Random(116)
        for room in ROOMS:
            for told in weights_of(chance, room):
                for value in (some_of(chance, tuple(cell for cell, w in told), 3), some_of(chance, room, 2),
                              weights.heaviest(room, told)[1]):
                    for _ in range(3):
                        self.assertEqual(weights.judge_apart(room, told, value), told_apart_fault(room, told, value))
                        value = altered(chance, value)
        for value in some_values():
            before = copy.deepcopy(value)
            self.assertEqual(weights.judge_apart(SNAKE, W, value), told_apart_fault(SNAKE, W, value))
            self.assertEqual(value, before)
        for value in of_other_kinds(((0, 0), (2, 4))):
            self.assertEqual(weights.judge_apart(SNAKE, W, value), ("form",))


class JustAsMany(unittest.TestCase):
    def test_by_trying(self):
        chance = random.Random(117)
        numbers = set()
        for room in TINY:
            for told in [(), tuple((cell, 0) for cell in room)] + [drawn_weights(chance, room, 4, 4) for _ in range(6)]:
                many = reckon.fewest_of_setting(room, told)
                self.assertEqual(weights.fewest_for(room, told), many)
                self.check(room, told, many)
                numbers.add(many)
        self.assertTrue({0, 1, 2, 3, 4} <= numbers)

    def check(self, room, told, many):
        answer = weights.weighted_answer(room, told)
        self.assertIsNone(told_weighted_fault(room, told, answer))
        self.assertIsNone(weights.judge_weighted(room, told, answer))
        self.assertEqual(sum(n for stall, n in answer[0]), many)
        burden, lot = weights.heaviest(room, told)
        self.assertIsNone(told_apart_fault(room, told, lot))
        self.assertEqual([burden, weights.burden(told, lot)], [many, many])
        self.assertEqual(reckon.greatest_burden(room, told, tuple(cell for cell, w in told)), many)

    def test_heavier_ones(self):
        chance = random.Random(118)
        numbers = set()
        for room in ROOMS:
            for told in weights_of(chance, room):
                many = weights.fewest_for(room, told)
                self.check(room, told, many)
                numbers.add(many)
        self.assertGreater(max(numbers), 15)

    def test_edges(self):
        for told in ((), (((0, 0), 0),), tuple((cell, 0) for cell in SNAKE)):
            self.assertEqual(weights.fewest_for(SNAKE, told), 0)
            self.assertEqual(weights.weighted_answer(SNAKE, told)[0], ())
            self.assertEqual(weights.heaviest(SNAKE, told)[0], 0)
            self.assertIsNone(weights.judge_weighted(SNAKE, told, ((), ())))
        self.assertEqual([weights.weighted_answer(ONE, ((ONE[0], 5),)), weights.heaviest(ONE, ((ONE[0], 5),))],
                         [(((ONE[0], 5),), ONE), (5, ONE)])

    def test_the_sequence_of_the_faults(self):
        lot = ((0, 0), (2, 4))
        told = [((SET, lot), None), ((SET, ((0, 0),)), ("sum", 3)), ((SET, ()), ("sum", 5)),
                ((SET + (((2, 1), 1),), lot), ("sum", 1)), ((SET[:1], lot), ("setting", ("short", (0, 0), 0))),
                ((SET[:1], None), ("setting", ("short", (0, 0), 0))), ((list(SET), lot), ("setting", ("form",))),
                ((SET, list(lot)), ("lot", ("form",))), ((SET, ((2, 2),)), ("lot", ("form",))),
                ((SET, ((0, 0), (1, 2))), ("lot", ("tied", (0, 0), (1, 2)))), ([SET, lot], ("form",)),
                ((SET,), ("form",)),
                ((SET, lot, ()), ("form",)), (None, ("form",)), ((), ("form",)),
                (((), ()), ("setting", ("short", (0, 0), 0)))]
        for value, fault in told:
            self.assertEqual(weights.judge_weighted(SNAKE, W, value), fault, value)

    def test_changed_ones_and_any_value(self):
        chance = random.Random(119)
        for room in ROOMS:
            for told in weights_of(chance, room):
                value = weights.weighted_answer(room, told)
                for _ in range(5):
                    value = altered(chance, value)
                    self.assertEqual(weights.judge_weighted(room, told, value), told_weighted_fault(room, told, value))
        for value in some_values():
            before = copy.deepcopy(value)
            for part in (value, (value, value), (SET, value)):
                self.assertEqual(weights.judge_weighted(SNAKE, W, part), told_weighted_fault(SNAKE, W, part))
            self.assertEqual(value, before)


class Spare(unittest.TestCase):
    def test_by_trying(self):
        chance = random.Random(120)
        for room in TINY[::3] + ROOMS[len(TINY)::2]:
            for told in weights_of(chance, room):
                spots = tuple(sorted({cell for cell, w in told}))
                many = weights.fewest_for(room, told)
                full = []
                for spot in room:
                    apart = tuple(cell for cell in spots if not reckon.tied(room, cell, spot))
                    burden = dict(told).get(spot, 0) + reckon.greatest_burden(room, told, apart)
                    if chance.randrange(4) == 0:
                        self.assertEqual(weights.heaviest_with(room, told, spot), burden)
                        self.assertEqual(weights.spare_of(room, told, spot), many - burden)
                    self.assertGreaterEqual(many, burden)
                    full += [spot] * (many == burden)
                self.assertEqual(weights.full_spots(room, told), tuple(full))

    def test_edges(self):
        for told in ((), tuple((cell, 0) for cell in SNAKE)):
            self.assertEqual(weights.full_spots(SNAKE, told), SNAKE)
            self.assertEqual([weights.heaviest_with(SNAKE, told, (1, 2)), weights.spare_of(SNAKE, told, (1, 2))],
                             [0, 0])
        # A spot that does not stand in the weights can be full.
        self.assertEqual(weights.full_spots(SNAKE, (((0, 0), 1),)), ((0, 0), (1, 4), (2, 4)))

    def test_one_spot_more(self):
        chance = random.Random(121)
        for room in ROOMS:
            told = drawn_weights(chance, room, 30, 8)
            many = weights.fewest_for(room, told)
            for spot in some_of(chance, room, 3):
                spare = weights.spare_of(room, told, spot)
                for k in {0, 1, spare, spare + 1, 12}:
                    grown = weights.fewest_for(room, weights.heavier(told, spot, k)) - many
                    self.assertEqual(grown, max(0, k - spare))


class Sums(unittest.TestCase):
    def test_sums(self):
        chance = random.Random(122)
        for room in ROOMS:
            one, other = drawn_weights(chance, room, 25, 8), drawn_weights(chance, room, 25, 8)
            both = weights.fewest_for(room, weights.weights_sum(one, other))
            apart = [weights.fewest_for(room, one), weights.fewest_for(room, other)]
            self.assertTrue(max(apart) <= both <= sum(apart))

    def test_times(self):
        chance = random.Random(123)
        for room in ROOMS:
            told = drawn_weights(chance, room, 5, 4)
            many = weights.fewest_for(room, told)
            for k in (0, 1, 2, 5, 12):
                self.assertEqual(weights.fewest_for(room, weights.times_weights(told, k)), k * many)

    def test_weights_of_1_are_as_the_lot(self):
        chance = random.Random(124)
        for room in ROOMS:
            for lot in ((), room, some_of(chance, room, 6)):
                self.assertEqual(weights.fewest_for(room, weights.even_weights(lot, 1)), stalls.fewest(room, lot))


class Oneself(unittest.TestCase):
    def test_the_reckoning_of_lots_apart(self):
        for room in TINY:
            told = [lot for many in range(4) for lot in itertools.combinations(room, many)
                    if all(not fields.are_tied(room, *pair) for pair in itertools.combinations(lot, 2))]
            self.assertEqual(sorted(lot for lot in reckon.lots_apart(room, room) if len(lot) < 4), sorted(told))


if __name__ == "__main__":
    unittest.main()
