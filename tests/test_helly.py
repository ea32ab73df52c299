"""Part 8: one stall for many."""

import copy
import itertools
import random
import unittest

from nodetour import helly, stalls
from nodetour.rooms import is_cell, is_lot
from tests import reckon
from tests.drawn import altered, drawn_rooms, of_other_kinds, small_rooms, some_of
from tests.support import some_values

SNAKE = ((0, 0), (0, 2), (0, 3), (0, 4), (1, 0), (1, 2), (1, 4), (2, 0), (2, 1), (2, 2), (2, 4))
LOT = ((0, 0), (1, 0), (1, 4), (2, 4))
DEALING, THREE = (((0, 0), (1, 4)), ((1, 0), (2, 4))), (((0, 0),), ((1, 0), (1, 4)), ((2, 4),))
ONE = ((7, -7),)
ROOMS = small_rooms(3, 3)[::4] + drawn_rooms(30, 14) + drawn_rooms(30, 30) + (SNAKE, ONE)
WIDE = drawn_rooms(40, 60)


def lots_of(chance, room):
    """Return some lots of spots of a room, () and all of it, too."""
    return [(), room] + [some_of(chance, room, many) for many in (1, 2, 3, 5, 9)]


def told_meeting_fault(room, lot, value):
    """Return the first fault of a value as a meeting, point by point."""
    if type(value) is not tuple or len(value) < 2 or not all(is_cell(cell) and cell in room for cell in value[1:]):
        return ("form",)
    if type(value[0]) is str and (value[0], len(value)) == ("stall", 2):
        dark = [spot for spot in lot if spot not in reckon.served(room, value[1])]
        return ("stall", min(dark)) if dark else None
    if type(value[0]) is str and (value[0], len(value)) == ("apart", 3) and value[1] < value[2]:
        foreign = [spot for spot in value[1:] if spot not in lot]
        both = reckon.common(room, value[1:])
        if foreign:
            return ("foreign", foreign[0])
        return ("tied", both[0]) if both else None
    return ("form",)


class Meetings(unittest.TestCase):
    def test_just_one_of_both_is_there(self):
        chance = random.Random(91)
        words = set()
        for room in ROOMS + WIDE:
            for lot in lots_of(chance, room):
                common = reckon.common(room, lot)
                apart = [pair for pair in itertools.combinations(lot, 2) if not reckon.tied(room, *pair)]
                self.assertIs(common == (), bool(apart))
                told = ("stall", common[0]) if common else ("apart",) + apart[0]
                self.assertEqual(helly.meeting(room, lot), told)
                self.assertIsNone(helly.judge_meeting(room, lot, told))
                self.assertIs(helly.is_lot_of_one(room, lot), told[0] == "stall")
                words.add(told[0])
        self.assertEqual(words, {"stall", "apart"})

    def test_the_empty_lot_and_one_cell(self):
        self.assertEqual([helly.meeting(SNAKE, ()), helly.meeting(ONE, ()), helly.meeting(ONE, ONE)],
                         [("stall", (0, 0)), ("stall", ONE[0]), ("stall", ONE[0])])
        self.assertEqual([helly.is_lot_of_one(SNAKE, ()), helly.is_lot_of_one(ONE, ONE)], [True, True])
        self.assertIsNone(helly.judge_meeting(SNAKE, (), ("stall", (2, 4))))
        self.assertEqual(helly.judge_meeting(SNAKE, (), ("apart", (0, 0), (2, 4))), ("foreign", (0, 0)))

    def test_the_sequence_of_the_faults(self):
        told = [(("stall", (0, 0)), ("stall", (1, 4))), (("stall", (2, 4)), ("stall", (0, 0))),
                (("apart", (0, 0), (2, 4)), None), (("apart", (1, 0), (1, 4)), None),
                (("apart", (0, 0), (1, 0)), ("tied", (0, 0))), (("apart", (1, 4), (2, 4)), ("tied", (0, 2))),
                (("apart", (0, 0), (0, 2)), ("foreign", (0, 2))), (("apart", (0, 2), (2, 4)), ("foreign", (0, 2))),
                (("apart", (0, 2), (0, 3)), ("foreign", (0, 2))), (("apart", (2, 4), (0, 0)), ("form",)),
                (("apart", (0, 0), (0, 0)), ("form",)), (("apart", (0, 0)), ("form",)), (("stall",), ("form",)),
                (("stall", (9, 9)), ("form",)), (("apart", (0, 0), (9, 9)), ("form",)),
                (("stall", (0, 0), (1, 0)), ("form",)),
                (("Stall", (0, 0)), ("form",)), (["stall", (0, 0)], ("form",)), (("stall", [0, 0]), ("form",)),
                (("stall", (False, 0)), ("form",)), (("apart", ((0, 0), (2, 4))), ("form",)), ("stall", ("form",)),
                ((("stall",), (0, 0)), ("form",)), (((0, 0), "stall"), ("form",)), ((), ("form",)), (None, ("form",)),
                (("apart", (0, 0), (1, 4), (2, 4)), ("form",)), (("stall", None), ("form",)),
                ((["stall"], (0, 0)), ("form",))]
        for value, fault in told:
            self.assertEqual(helly.judge_meeting(SNAKE, LOT, value), fault, value)
        self.assertIsNone(helly.judge_meeting(SNAKE, LOT[:2], ("stall", (2, 1))))

    def test_changed_meetings_and_any_value(self):
        chance = random.Random(92)
        for room in ROOMS:
            for lot in lots_of(chance, room):
                pair = some_of(chance, room, 2)
                for value in (("stall", chance.choice(room)), ("apart",) + pair, helly.meeting(room, lot)):
                    for _ in range(2):
                        self.assertEqual(helly.judge_meeting(room, lot, value), told_meeting_fault(room, lot, value))
                        value = value[:1] + (altered(chance, value[1:]) or ())
        for value in some_values():
            before = copy.deepcopy(value)
            for told in (value, ("stall", value), ("apart", value, value), ("apart", (0, 0), value)):
                self.assertEqual(helly.judge_meeting(SNAKE, LOT, told), told_meeting_fault(SNAKE, LOT, told))
            self.assertEqual(value, before)
        for value in list(of_other_kinds(("apart", (0, 0), (1, 4)))) + list(of_other_kinds(("stall", (0, 0)))):
            self.assertEqual(helly.judge_meeting(SNAKE, LOT, value), ("form",))


class LotsOfOneStall(unittest.TestCase):
    def test_greatest_lots(self):
        chance = random.Random(93)
        for room in ROOMS + WIDE[:10]:
            for lot in lots_of(chance, room):
                parts = {tuple(sorted(reckon.served(room, cell) & set(lot))) for cell in room} - {()}
                told = tuple(sorted(part for part in parts if not any(set(part) < set(other) for other in parts)))
                self.assertEqual(helly.greatest_lots(room, lot), told)
                self.assertEqual({spot for part in told for spot in part}, set(lot))

    def test_they_are_the_lots_of_spots_each_two_tied(self):
        chance = random.Random(94)
        for room in ROOMS:
            lot = some_of(chance, room, 7)
            tied = [part for many in range(1, len(lot) + 1) for part in itertools.combinations(lot, many)
                    if all(reckon.tied(room, *pair) for pair in itertools.combinations(part, 2))]
            told = tuple(sorted(part for part in tied if not any(set(part) < set(other) for other in tied)))
            self.assertEqual(helly.greatest_lots(room, lot), told)
            self.assertEqual(helly.load(room, lot), max(map(len, tied)))

    def test_greatest_one_and_load(self):
        chance = random.Random(95)
        for room in ROOMS + WIDE:
            for lot in lots_of(chance, room)[1:]:
                parts = {cell: tuple(sorted(reckon.served(room, cell) & set(lot))) for cell in room}
                most = max(map(len, parts.values()))
                cell = min(cell for cell in room if len(parts[cell]) == most)
                self.assertEqual(helly.greatest_one(room, lot), (cell, parts[cell]))
                self.assertEqual(helly.load(room, lot), most)

    def test_edges(self):
        self.assertEqual([helly.greatest_lots(SNAKE, ()), helly.load(SNAKE, ()), helly.greatest_lots(ONE, ONE),
                          helly.greatest_one(ONE, ONE), helly.load(ONE, ONE)], [(), 0, (ONE,), (ONE[0], ONE), 1])


def told_shifts_fault(room, lot, value):
    """Return the first fault of a value as shifts, point by point."""
    if type(value) is not tuple or not all(is_lot(part) and part and set(part) <= set(room) for part in value):
        return ("form",)
    if list(value) != sorted(set(value)):
        return ("form",)
    spots = [spot for part in value for spot in part]
    if set(spots) - set(lot):
        return ("foreign", min(set(spots) - set(lot)))
    for spot in lot:
        if spots.count(spot) != 1:
            return ("spot", spot)
    for k, part in enumerate(value):
        pair = reckon.first_tied(room, part)
        if pair:
            return ("tied", k) + pair
    most = max([len(reckon.served(room, cell) & set(lot)) for cell in room])
    return ("many", len(value)) if len(value) > most else None


def parted_anyhow(chance, lot):
    """Return the spots of a lot dealt to lots without a look at what is tied."""
    parts = {}
    for spot in lot:
        parts.setdefault(chance.randrange(len(lot)), []).append(spot)
    return tuple(sorted(map(tuple, parts.values())))


class Shifts(unittest.TestCase):
    def test_as_many_as_load_and_none_with_fewer(self):
        chance = random.Random(96)
        for room in ROOMS:
            for lot in lots_of(chance, room):
                dealing = helly.shifts(room, lot)
                self.assertIsNone(told_shifts_fault(room, lot, dealing))
                self.assertIsNone(helly.judge_shifts(room, lot, dealing))
                self.assertEqual(len(dealing), helly.load(room, lot))
                if len(lot) < 7:
                    self.assertEqual(min(map(len, reckon.all_dealings(room, lot))), len(dealing))

    def test_larger_rooms(self):
        chance = random.Random(97)
        for room in WIDE:
            for lot in (room, some_of(chance, room, 15)):
                dealing = helly.shifts(room, lot)
                self.assertIsNone(told_shifts_fault(room, lot, dealing))
                self.assertEqual(len(dealing), helly.load(room, lot))

    def test_the_sequence_of_the_faults(self):
        told = [(DEALING, None), (THREE, ("many", 3)), (tuple((spot,) for spot in LOT), ("many", 4)),
                (DEALING[:1], ("spot", (1, 0))), (DEALING[1:], ("spot", (0, 0))), ((), ("spot", (0, 0))),
                ((((0, 0), (1, 4)), ((1, 0), (1, 4))), ("spot", (1, 4))),
                ((((0, 0), (2, 1)), ((1, 0),)), ("foreign", (2, 1))),
                ((((0, 0), (2, 1)), ((0, 2), (1, 0))), ("foreign", (0, 2))),
                ((((0, 0), (1, 0)), ((1, 4), (2, 4))), ("tied", 0, (0, 0), (1, 0))),
                ((((0, 0),), ((1, 0),), ((1, 4), (2, 4))), ("tied", 2, (1, 4), (2, 4))),
                ((((0, 0), (1, 4), (2, 4)), ((1, 0),)), ("tied", 0, (1, 4), (2, 4))), (DEALING[::-1], ("form",)),
                (DEALING[:1] * 2, ("form",)), (((),) + DEALING, ("form",)),
                ((((1, 4), (0, 0)), ((1, 0), (2, 4))), ("form",)),
                ((((0, 0), (9, 9)),), ("form",)), (list(DEALING), ("form",)),
                ((list(DEALING[0]), DEALING[1]), ("form",)),
                (DEALING[0], ("form",)), (None, ("form",))]
        for value, fault in told:
            self.assertEqual(helly.judge_shifts(SNAKE, LOT, value), fault, value)
        self.assertEqual([helly.shifts(SNAKE, ()), helly.judge_shifts(SNAKE, (), ())], [(), None])
        self.assertEqual(helly.judge_shifts(SNAKE, (), (((0, 0),),)), ("foreign", (0, 0)))
        self.assertEqual([helly.shifts(ONE, ONE), helly.judge_shifts(ONE, ONE, ())], [(ONE,), ("spot", ONE[0])])

    def test_changed_dealings_and_any_value(self):
        chance = random.Random(98)
        kinds = set()
        for room in ROOMS:
            for lot in lots_of(chance, room):
                value = chance.choice((helly.shifts(room, lot), helly.balanced(room, lot, len(lot)),
                                       parted_anyhow(chance, lot), parted_anyhow(chance, lot)))
                for _ in range(3):
                    fault = told_shifts_fault(room, lot, value)
                    self.assertEqual(helly.judge_shifts(room, lot, value), fault)
                    kinds.add((fault or (None,))[0])
                    value = altered(chance, value)
        self.assertEqual(kinds, {None, "form", "foreign", "spot", "tied", "many"})
        for value in some_values():
            before = copy.deepcopy(value)
            self.assertEqual(helly.judge_shifts(SNAKE, LOT, value), told_shifts_fault(SNAKE, LOT, value))
            self.assertEqual(value, before)
        for value in of_other_kinds(DEALING):
            self.assertEqual(helly.judge_shifts(SNAKE, LOT, value), ("form",))


def told_move(room, dealing, spot, k):
    """Return the dealing behind a move of a spot to lot number k, None if that is no dealing."""
    if spot in dealing[k]:
        return dealing
    if any(reckon.tied(room, spot, other) for other in dealing[k]):
        return None
    lots = [set(part) - {spot} for part in dealing]
    lots[k].add(spot)
    return tuple(sorted(tuple(sorted(part)) for part in lots if part))


def is_even_plainly(room, dealing, n):
    """Return whether a dealing is even for n: all moves are looked at."""
    for part in dealing:
        for spot in part if len(part) > 1 else ():
            if len(dealing) < n:
                return False
            for k, other in enumerate(dealing):
                if len(other) + 2 <= len(part) and told_move(room, dealing, spot, k) is not None:
                    return False
    return True


class Even(unittest.TestCase):
    def test_shift_of(self):
        self.assertEqual([helly.shift_of(THREE, spot) for spot in LOT], [0, 1, 1, 2])
        for room in ROOMS:
            dealing = helly.shifts(room, room)
            for k, part in enumerate(dealing):
                self.assertEqual([helly.shift_of(dealing, spot) for spot in part], [k] * len(part))

    def test_moved_spot(self):
        chance = random.Random(99)
        kinds = {"same": 0, "none": 0, "moved": 0}
        for room in ROOMS:
            lot = some_of(chance, room, 9)
            for dealing in (helly.shifts(room, lot), helly.balanced(room, lot, len(lot))):
                for spot in lot:
                    for k in range(len(dealing)):
                        told = told_move(room, dealing, spot, k)
                        self.assertEqual(helly.moved_spot(room, dealing, spot, k), told)
                        kinds["none" if told is None else "same" if told == dealing else "moved"] += 1
        self.assertGreater(min(kinds.values()), 20)

    def test_moved_spot_edges(self):
        self.assertEqual(helly.moved_spot(SNAKE, THREE, (1, 0), 1), THREE)
        # A lot without spots is left out, and the rest ascends again.
        self.assertEqual(helly.moved_spot(SNAKE, THREE, (0, 0), 2), (((0, 0), (2, 4)), ((1, 0), (1, 4))))
        self.assertEqual(helly.moved_spot(SNAKE, THREE, (2, 4), 0), (((0, 0), (2, 4)), ((1, 0), (1, 4))))
        self.assertIsNone(helly.moved_spot(SNAKE, THREE, (2, 4), 1))

    def test_is_even_for(self):
        chance = random.Random(100)
        both = {True: 0, False: 0}
        for room in ROOMS:
            lot = some_of(chance, room, 6)
            for dealing in reckon.all_dealings(room, lot)[:80]:
                for n in (len(dealing), len(dealing) + 1, len(lot), 60):
                    if n >= len(dealing):
                        told = is_even_plainly(room, dealing, n)
                        self.assertIs(helly.is_even_for(room, dealing, n), told)
                        both[told] += 1
        self.assertGreater(min(both.values()), 20)
        self.assertEqual([helly.is_even_for(SNAKE, (), 0), helly.is_even_for(SNAKE, (), 5)], [True, True])
        singles = tuple((spot,) for spot in LOT)
        self.assertEqual([helly.is_even_for(SNAKE, singles, 4), helly.is_even_for(SNAKE, singles, 60)], [True, True])
        self.assertEqual([helly.is_even_for(SNAKE, THREE, 3), helly.is_even_for(SNAKE, THREE, 4)], [True, False])

    def test_balanced(self):
        chance = random.Random(101)
        for room in ROOMS + WIDE[:12]:
            for lot in lots_of(chance, room):
                least = helly.load(room, lot)
                for n in (least, least + 1, (least + len(lot) + 1) // 2, max(least, len(lot)), 60):
                    dealing = helly.balanced(room, lot, n)
                    self.assertIn((told_shifts_fault(room, lot, dealing) or ("many",))[0], ("many",))
                    self.assertLessEqual(len(dealing), n)
                    self.assertTrue(is_even_plainly(room, dealing, n))
                    self.assertIs(helly.is_even_for(room, dealing, n), True)
        self.assertEqual([helly.balanced(SNAKE, (), 0), helly.balanced(SNAKE, (), 60), helly.balanced(ONE, ONE, 1)],
                         [(), (), (ONE,)])
        self.assertEqual(helly.balanced(SNAKE, LOT, 4), tuple((spot,) for spot in LOT))

    def test_the_squares_fall(self):
        fallen = 0
        for room in WIDE + drawn_rooms(40, 40):
            before, behind = helly.shifts(room, room), helly.balanced(room, room, helly.load(room, room))
            squares = [sum(len(part) ** 2 for part in dealing) for dealing in (before, behind)]
            self.assertLessEqual(squares[1], squares[0])
            self.assertIs(helly.is_even_for(room, before, len(before)), is_even_plainly(room, before, len(before)))
            fallen += squares[1] < squares[0]
        self.assertGreater(fallen, 5)


class Both(unittest.TestCase):
    def test_bounds(self):
        chance = random.Random(102)
        for room in ROOMS + WIDE:
            for lot in lots_of(chance, room)[1:]:
                load, fewest, spots = helly.bounds(room, lot)
                self.assertEqual((load, fewest, spots), (helly.load(room, lot), stalls.fewest(room, lot), len(lot)))
                self.assertGreaterEqual(load * fewest, spots)
        self.assertEqual(helly.bounds(ONE, ONE), (1, 1, 1))


if __name__ == "__main__":
    unittest.main()
