"""Calls at the bounds that the document tells end soon."""

import random
import time
import unittest

from nodetour import fields, helly, joining, stalls, ways, webs, weights
from nodetour.rooms import is_room
from tests.drawn import drawn_room, drawn_web, maze_room, some_of

# Far more than any of these calls takes, and far less than one that tries all.
SOON = 20
LINE = tuple((x, 0) for x in range(60))
SQUARE = tuple((x, y) for x in range(20) for y in range(20))


def comb():
    """Return a room of four hundred cells within sixty by sixty: a row with teeth."""
    teeth = [(x, y) for x in range(0, 60, 3) for y in range(1, 18)]
    return tuple(sorted(list(LINE) + teeth))


def rooms_of(size, box):
    """Return rooms of so many cells: a block, a line and drawn ones."""
    chance = random.Random(size)
    block = tuple((x, y) for x in range(size // 6) for y in range(6))
    line = tuple((0, y) for y in range(size))
    return [block, line, maze_room(chance, size, box), drawn_room(chance, size, box, 100),
            drawn_room(chance, size, box, 60)]


def rooms_of_four_hundred():
    chance = random.Random(71)
    return [SQUARE, comb(), drawn_room(chance, 400, 60, 90), drawn_room(chance, 400, 24, 0)]


class Bounds(unittest.TestCase):
    def setUp(self):
        self.begin = time.process_time()

    def tearDown(self):
        self.assertLess(time.process_time() - self.begin, SOON)

    def test_ways_in_rooms_of_four_hundred_cells(self):
        for room in rooms_of_four_hundred():
            self.assertTrue(is_room(room) and 350 <= len(room) <= 400)
            start, end = room[0], room[-1]
            for one, other in ((start, end), (end, start), (start, start), (room[7], room[-9])):
                many = ways.ways_many(room, one, other)
                first, last = ways.first_way(room, one, other), ways.last_way(room, one, other)
                self.assertIs(ways.serves(room, one, other), many > 0)
                self.assertEqual(ways.shortest_steps(room, one, other), ways.shortest_steps(room, other, one))
                self.assertGreaterEqual(ways.detour_of(room, one, other), 0)
                self.assertIsInstance(ways.middles(room, one, other), tuple)
                if many:
                    self.assertEqual(ways.way_at(room, one, other, 0), first)
                    self.assertEqual(ways.way_at(room, one, other, many - 1), last)
                    self.assertEqual(ways.way_number(room, one, other, last), many - 1)
                    self.assertTrue(ways.is_way(room, one, other, ways.lower_of(last, first)))
                    self.assertEqual(ways.upper_of(last, first), last)
                    self.assertIn(one, ways.cells_between(room, one, other))

    def test_many_ways(self):
        # 38 steps, half of them upwards: each number of a way of 35,345,263,800 leads back to itself.
        many = ways.ways_many(SQUARE, (0, 0), (19, 19))
        self.assertEqual(many, 35345263800)
        for n in (0, 1, 12345678901, many // 2, many - 1):
            way = ways.way_at(SQUARE, (0, 0), (19, 19), n)
            self.assertEqual(ways.way_number(SQUARE, (0, 0), (19, 19), way), n)

    def test_fields_in_rooms_of_four_hundred_cells(self):
        for room in rooms_of_four_hundred():
            served = fields.field(room, room[0])
            self.assertIsNone(fields.judge_field(room, room[0], served))
            self.assertEqual(fields.lit(room, fields.corner_fields(room, room[0])[0] + (room[0],))[0], room[0])
            self.assertIsNone(fields.judge_common(room, room, fields.common_stalls(room, room)))
            self.assertIn(room[0], fields.tied_to(room, room[0]))
            self.assertEqual(fields.dark_in(room, room, list(room)), ())
            self.assertTrue(fields.serve_all(room, room, list(room)))
            self.assertEqual(len(fields.alone_served(room, list(room))), len(room))
            self.assertEqual(len(fields.walk_lit(room, room[:2])), 2)

    def test_fields_in_rooms_of_a_hundred_cells(self):
        chance = random.Random(72)
        for room in (tuple((x, y) for x in range(10) for y in range(10)), drawn_room(chance, 100, 30, 100)):
            self.assertEqual(len(fields.all_fields(room)), len(room))
            self.assertEqual(sum(map(len, fields.like_lots(room))), len(room))
            self.assertEqual(fields.hard_in(room, room), fields.hard_spots(room))
            self.assertTrue(fields.good_stalls(room))
            self.assertEqual(fields.center(room), fields.common_stalls(room, room))
            cell, most = fields.seen_by_most(room, room)
            self.assertEqual(len(fields.field(room, cell)), most)

    def test_webs_of_sixty_members(self):
        chance = random.Random(73)
        rooms = [drawn_room(chance, 100, 30, winding) for winding in (60, 95, 100)]
        told = [webs.web_of(room, some_of(chance, room, 60)) for room in rooms]
        told += [webs.contrary(web) for web in told]
        for web in told:
            log = joining.log_of(web)
            self.assertIsNone(joining.judge_log(web, log))
            self.assertEqual(len(joining.log_papers(web, log)), len(log))
            self.assertIsNone(joining.judge_split(web, joining.split_of(web)))
        for share in (1, 5, 20, 50, 80, 95, 99):
            web = drawn_web(chance, 60, share)
            log = joining.log_of(web)
            self.assertIs(joining.judge_log(web, log) is None, joining.is_spent(web, log))
            self.assertIs(joining.stuck_web(web) is None, joining.is_spent(web, log))

    def test_long_ways_and_rounds_of_fourteen_members(self):
        chance = random.Random(74)
        for share in (0, 10, 20, 30, 50, 70, 80, 90, 100):
            web = drawn_web(chance, 14, share)
            found = webs.long_round(web)
            self.assertTrue(found is None or webs.is_bare_round(web, found))
            self.assertIs(webs.is_plain(web), webs.is_plain(webs.contrary(web)))
            for other in web[0][1:]:
                way = webs.long_way(web, web[0][0], other)
                self.assertTrue(way is None or webs.is_bare_way(web, way))

    def test_trying_of_twelve_members(self):
        chance = random.Random(75)
        for share in (0, 20, 40, 50, 60, 80, 100):
            web = drawn_web(chance, 12, share)
            self.assertGreaterEqual(joining.least_groups(web), len(joining.greatest_knot(web)))

    def test_answers_in_rooms_of_sixty_cells(self):
        for room in rooms_of(60, 12):
            answer = stalls.answer(room)
            self.assertEqual(stalls.fewest(room, room), len(answer[0]))
            self.assertIsNone(stalls.judge_answer(room, room, answer))

    def test_judges_of_answers_in_rooms_of_two_hundred_cells(self):
        for room in rooms_of(200, 30):
            told = room[::5]
            self.assertIsNotNone(stalls.judge_answer(room, room, (room, room)))
            self.assertIsNone(stalls.judge_stalls(room, room, room))
            self.assertEqual(stalls.judge_spots(room, room, room)[0], "tied")
            lit = fields.lit(room, told)
            self.assertEqual(len(stalls.dealt(room, told, lit)), len(told))
            plan = stalls.plan_for(room, told, lit)
            self.assertIsNone(stalls.judge_plan(room, told, lit, plan))
            self.assertTrue(stalls.served_by(room, told, told[0]))

    def test_meetings_in_rooms_of_two_hundred_cells(self):
        for room in rooms_of(200, 30):
            self.assertIsNone(helly.judge_meeting(room, room, helly.meeting(room, room)))
            self.assertIs(helly.is_lot_of_one(room, room), helly.meeting(room, room)[0] == "stall")
            self.assertIn(helly.greatest_one(room, room)[1], helly.greatest_lots(room, room))
            self.assertEqual(helly.load(room, room), len(helly.greatest_one(room, room)[1]))
            singles = tuple((cell,) for cell in room)
            self.assertEqual(helly.shift_of(singles, room[-1]), len(room) - 1)
            self.assertIs(helly.is_even_for(room, singles, len(room)), True)
            self.assertIs(helly.moved_spot(room, singles, room[0], 1) is None, fields.are_tied(room, room[0], room[1]))

    def test_shifts_in_rooms_of_sixty_cells(self):
        for room in rooms_of(60, 12):
            dealing = helly.shifts(room, room)
            self.assertIsNone(helly.judge_shifts(room, room, dealing))
            for n in (len(dealing), min(60, len(dealing) + 3), 60):
                self.assertTrue(helly.is_even_for(room, helly.balanced(room, room, n), n))
            self.assertEqual(helly.bounds(room, room)[2], len(room))

    def test_weights_of_sixty_in_all(self):
        for room in rooms_of(30, 9):
            for spots, w in ((room, 2), (room[:1], 60), (room[::2], 4), (room[::6], 12)):
                told = weights.even_weights(spots, w)
                answer = weights.weighted_answer(room, told)
                self.assertIsNone(weights.judge_weighted(room, told, answer))
                self.assertEqual(weights.heaviest(room, told)[0], weights.fewest_for(room, told))
                full = weights.full_spots(room, told)
                for cell in room[::6]:
                    self.assertIs(weights.spare_of(room, told, cell) == 0, cell in full)


if __name__ == "__main__":
    unittest.main()
