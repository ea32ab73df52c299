"""Part 3: ways without detour."""

import random
import unittest

from nodetour import ways
from nodetour.rooms import is_room, side_cells
from tests.drawn import altered, drawn_rooms, small_rooms
from tests.reckon import OPPOSITE, after, distances, served, ways_from
from tests.support import some_values

CUP = ((0, 0), (0, 1), (1, 0), (2, 0), (2, 1))
BLOCK = ((0, 0), (0, 1), (1, 0), (1, 1), (2, 0), (2, 1))
# A pocket: (1, 2) is reached from (3, 2) by a detour alone.
POCKET = tuple(sorted({(x, y) for x in range(4) for y in range(3)} - {(2, 1), (2, 2)}))
ONE = ((7, -7),)
# Rooms in which all ways can be listed.
ROOMS = small_rooms(3, 3) + drawn_rooms(60, 14) + (CUP, BLOCK, POCKET, ONE)
WIDE = drawn_rooms(30, 40)


def pairs(room):
    return [(start, end) for start in room for end in room]


def told_fault(room, start, end, value):
    """Return the first fault of a value, kind by kind."""
    if not isinstance(value, str) or set(value) - set("rlud"):
        return ("form",)
    if any(OPPOSITE[sign] in value for sign in value):
        return ("contrary",)
    cell = start
    for i, sign in enumerate(value):
        cell = after(cell, sign)
        if cell not in room:
            return ("wall", i)
    return None if cell == end else ("end", cell)


class Steps(unittest.TestCase):
    def test_trail(self):
        self.assertEqual(ways.trail((3, -1), ""), ((3, -1),))
        self.assertEqual(ways.trail((0, 0), "rul"), ((0, 0), (1, 0), (1, 1), (0, 1)))
        self.assertEqual(ways.trail((0, 0), "ddrl"), ((0, 0), (0, -1), (0, -2), (1, -2), (0, -2)))

    def test_the_steps_lead_to_the_side_cells_in_their_order(self):
        self.assertEqual(tuple(ways.trail((5, 6), step)[1] for step in "ruld"), side_cells((5, 6)))

    def test_back_way(self):
        self.assertEqual([ways.back_way(""), ways.back_way("r"), ways.back_way("rru"), ways.back_way("dl")],
                         ["", "l", "dll", "ru"])
        for room in ROOMS[-40:]:
            for start, end in pairs(room):
                for way in ways_from(room, start).get(end, []):
                    back = ways.back_way(way)
                    self.assertIsNone(told_fault(room, end, start, back))
                    self.assertEqual(ways.trail(end, back), ways.trail(start, way)[::-1])
                    self.assertEqual(ways.back_way(back), way)


class Judged(unittest.TestCase):
    def test_the_sequence_of_the_faults(self):
        told = [("drr", None), ("drru", ("contrary",)), ("drx", ("form",)), ("dxu", ("form",)), ("lr", ("contrary",)),
                ("uu", ("wall", 0)), ("dd", ("wall", 1)), ("drrr", ("wall", 3)), ("dr", ("end", (1, 0))),
                ("", ("end", (0, 1))), ("drrd", ("wall", 3)), ("llud", ("contrary",)), ("DRR", ("form",)),
                ("drr ", ("form",)), ("drr\n", ("form",))]
        for value, fault in told:
            self.assertEqual(ways.judge_way(CUP, (0, 1), (2, 0), value), fault, value)
            self.assertIs(ways.is_way(CUP, (0, 1), (2, 0), value), fault is None)

    def test_from_a_cell_to_itself(self):
        for room in (CUP, ONE):
            for cell in room:
                self.assertIsNone(ways.judge_way(room, cell, cell, ""))
        self.assertEqual(ways.judge_way(BLOCK, (0, 0), (0, 0), "ruld"), ("contrary",))
        self.assertEqual(ways.judge_way(ONE, (7, -7), (7, -7), "r"), ("wall", 0))

    def test_a_way_out_of_the_room_and_into_it_again_is_none(self):
        self.assertEqual(ways.judge_way(CUP, (0, 1), (2, 1), "rr"), ("wall", 0))
        self.assertEqual(ways.judge_way(POCKET, (1, 2), (3, 2), "rr"), ("wall", 0))

    def test_all_short_texts(self):
        texts = [""]
        for _ in range(4):
            texts += [text + sign for text in texts for sign in "rludx" if len(text) < 4]
        texts = sorted(set(texts))
        for room in (CUP, BLOCK):
            for start, end in pairs(room):
                for text in texts:
                    self.assertEqual(ways.judge_way(room, start, end, text), told_fault(room, start, end, text))

    def test_ways_that_were_changed(self):
        chance = random.Random(31)
        for room in ROOMS[-60:]:
            for start, end in pairs(room)[::3]:
                way = chance.choice(ways_from(room, start).get(end, ["ru"]))
                for _ in range(3):
                    value = altered(chance, way)
                    fault = told_fault(room, start, end, value)
                    self.assertEqual(ways.judge_way(room, start, end, value), fault)
                    self.assertIs(ways.is_way(room, start, end, value), fault is None)

    def test_any_value(self):
        others = [b"drr", ("d", "r", "r"), ["d", "r", "r"], {"d": "r"}, ("drr",), ["drr"], True, 0, None]
        for value in some_values() + others:
            fault = told_fault(CUP, (0, 1), (2, 0), value)
            self.assertEqual(ways.judge_way(CUP, (0, 1), (2, 0), value), fault)
            self.assertIs(ways.is_way(CUP, (0, 1), (2, 0), value), fault is None)

    def test_a_long_text(self):
        self.assertEqual(ways.judge_way(CUP, (0, 0), (2, 0), "r" * 200), ("wall", 2))
        line = tuple((x, 0) for x in range(201))
        self.assertIsNone(ways.judge_way(line, (0, 0), (200, 0), "r" * 200))


class Found(unittest.TestCase):
    def test_first_last_many_and_serves(self):
        for room in ROOMS:
            for start, end in pairs(room):
                told = ways_from(room, start).get(end, [])
                self.assertEqual(ways.first_way(room, start, end), told[0] if told else None)
                self.assertEqual(ways.last_way(room, start, end), told[-1] if told else None)
                self.assertEqual(ways.ways_many(room, start, end), len(told))
                self.assertIs(ways.serves(room, start, end), bool(told))

    def test_each_by_its_number_and_back(self):
        for room in ROOMS:
            for start, end in pairs(room):
                told = ways_from(room, start).get(end, [])
                for n, way in enumerate(told):
                    self.assertEqual(ways.way_at(room, start, end, n), way)
                    self.assertEqual(ways.way_number(room, start, end, way), n)

    def test_from_a_cell_to_itself(self):
        for room in (ONE, BLOCK):
            cell = room[0]
            self.assertEqual([ways.first_way(room, cell, cell), ways.last_way(room, cell, cell),
                              ways.way_at(room, cell, cell, 0)], ["", "", ""])
            self.assertEqual([ways.ways_many(room, cell, cell), ways.way_number(room, cell, cell, "")], [1, 0])
            self.assertEqual(ways.cells_between(room, cell, cell), (cell,))

    def test_a_pocket_is_reached_by_a_detour_alone(self):
        self.assertIs(ways.serves(POCKET, (3, 2), (1, 2)), False)
        self.assertIsNone(ways.first_way(POCKET, (3, 2), (1, 2)))
        self.assertIsNone(ways.last_way(POCKET, (3, 2), (1, 2)))
        self.assertEqual(ways.ways_many(POCKET, (3, 2), (1, 2)), 0)
        self.assertEqual(ways.cells_between(POCKET, (3, 2), (1, 2)), ())
        self.assertEqual(ways.detour_of(POCKET, (3, 2), (1, 2)), 4)

    def test_all_ways_have_the_same_signs(self):
        for room in WIDE:
            for start in room[::5]:
                for end in room:
                    way = ways.first_way(room, start, end)
                    self.assertIs(way is not None, end in served(room, start))
                    if way is not None:
                        self.assertIsNone(told_fault(room, start, end, way))
                        self.assertEqual(sorted(way), sorted(ways.last_way(room, start, end)))
                        self.assertIs(ways.serves(room, end, start), True)


class TwoWays(unittest.TestCase):
    def lower_and_upper(self, one, other):
        """Return both, looked over by what is told of each beginning."""
        lower, upper = ways.lower_of(one, other), ways.upper_of(one, other)
        least = min(one + other, default="")
        for n in range(len(one) + 1):
            counts = one[:n].count(least), other[:n].count(least)
            self.assertEqual(lower[:n].count(least), max(counts))
            self.assertEqual(upper[:n].count(least), min(counts))
        self.assertEqual([sorted(lower), sorted(upper)], [sorted(one), sorted(one)])
        return lower, upper

    def test_texts(self):
        told = [("", "", "", ""), ("r", "r", "r", "r"), ("ll", "ll", "ll", "ll"), ("ru", "ur", "ru", "ur"),
                ("ur", "ru", "ru", "ur"), ("dl", "ld", "dl", "ld"), ("dr", "rd", "dr", "rd"), ("ul", "lu", "lu", "ul"),
                ("ruur", "urru", "ruru", "urur"), ("urru", "ruur", "ruru", "urur"), ("lddl", "dlld", "dldl", "ldld")]
        for one, other, lower, upper in told:
            self.assertEqual(ways.lower_of(one, other), lower)
            self.assertEqual(ways.upper_of(one, other), upper)
            self.assertEqual(self.lower_and_upper(one, other), (lower, upper))

    def test_they_are_ways_along_the_cells_of_both(self):
        for room in ROOMS:
            for start in room:
                for end, told in ways_from(room, start).items():
                    for one in told[::2]:
                        for other in told[::3]:
                            cells = set(ways.trail(start, one)) | set(ways.trail(start, other))
                            for way in self.lower_and_upper(one, other):
                                self.assertIsNone(told_fault(room, start, end, way))
                                self.assertTrue(set(ways.trail(start, way)) <= cells)

    def test_the_first_way_is_beneath_all(self):
        for room in ROOMS[-64:]:
            for start in room:
                for told in ways_from(room, start).values():
                    for way in told:
                        self.assertEqual(self.lower_and_upper(told[0], way), (told[0], way))
                        self.assertEqual(self.lower_and_upper(way, told[-1]), (way, told[-1]))

    def test_cells_between_are_those_in_some_way(self):
        for room in ROOMS:
            for start in room:
                for end in room:
                    told = ways_from(room, start).get(end, [])
                    cells = {cell for way in told for cell in ways.trail(start, way)}
                    self.assertEqual(ways.cells_between(room, start, end), tuple(sorted(cells)))

    def test_cells_between_are_those_between_the_first_and_the_last_way(self):
        for room in ROOMS + WIDE:
            for start in room[::4]:
                for end in room[::3]:
                    first, last = ways.first_way(room, start, end), ways.last_way(room, start, end)
                    told = set()
                    if first is not None:
                        p, q = min(first, default=""), max(first, default="")
                        for n in range(len(first) + 1):
                            for many in range(last[:n].count(p) if p else 0, (first[:n].count(p) if p else 0) + 1):
                                told.add(ways.trail(start, p * many + q * (n - many))[-1])
                    self.assertEqual(ways.cells_between(room, start, end), tuple(sorted(told)))


class Meetings(unittest.TestCase):
    def test_meeting_way(self):
        for room in ROOMS[::5]:
            for one, middle in pairs(room):
                for other in room:
                    there = ways_from(room, one).get(middle)
                    further = ways_from(room, middle).get(other)
                    told = (there[0], further[0]) if there and further else None
                    self.assertEqual(ways.meeting_way(room, one, middle, other), told)
        self.assertEqual(ways.meeting_way(ONE, ONE[0], ONE[0], ONE[0]), ("", ""))
        self.assertIsNone(ways.meeting_way(CUP, (2, 1), (0, 1), (0, 0)))

    def test_middles(self):
        for room in ROOMS:
            for one, other in pairs(room):
                told = served(room, one) & served(room, other)
                self.assertEqual(ways.middles(room, one, other), tuple(sorted(told)))
                self.assertTrue(all(ways.meeting_way(room, one, cell, other) is not None for cell in sorted(told)[:2]))
        self.assertEqual(ways.middles(CUP, (0, 1), (0, 1)), ((0, 0), (0, 1), (1, 0), (2, 0)))
        snake = ((0, 0), (0, 2), (0, 3), (0, 4), (1, 0), (1, 2), (1, 4), (2, 0), (2, 1), (2, 2), (2, 4))
        self.assertEqual(ways.middles(snake, (0, 0), (2, 4)), ())

    def test_fewest_steps_and_detours(self):
        for room in ROOMS + WIDE[:10]:
            told = distances(room)
            for one, other in pairs(room):
                steps = told[one, other]
                straight = abs(one[0] - other[0]) + abs(one[1] - other[1])
                self.assertEqual(ways.shortest_steps(room, one, other), steps)
                detour = ways.detour_of(room, one, other)
                self.assertEqual(detour, steps - straight)
                self.assertEqual(detour % 2, 0)
                self.assertIs(detour == 0, ways.serves(room, one, other))


class Oneself(unittest.TestCase):
    def test_the_rooms_of_these_tests_are_right(self):
        for room in ROOMS + WIDE:
            self.assertTrue(is_room(room))
        self.assertTrue(any(len(room) > 30 for room in WIDE))


if __name__ == "__main__":
    unittest.main()
