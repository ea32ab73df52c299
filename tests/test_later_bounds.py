"""Calls of parts 10 to 14 at the bounds that the document tells end soon."""

import random
import time
import unittest

from nodetour import choices, cutting, deeds, kept, shapes, stalls, surveys
from nodetour.desk import Desk
from nodetour.errors import BadText
from nodetour.house import House
from nodetour.rooms import is_room
from tests.drawn import drawn_room, some_of
from tests.test_bounds import SOON, rooms_of


class Bounds(unittest.TestCase):
    def setUp(self):
        self.begin = time.process_time()

    def tearDown(self):
        self.assertLess(time.process_time() - self.begin, SOON)

    def test_choices_in_rooms_of_thirty_cells(self):
        for room in rooms_of(30, 9):
            self.assertEqual(choices.spare_stalls(room, room, room), () if len(room) == 1 else tuple(range(len(room))))
            for k in (0, 14, 29):
                k = min(k, len(room) - 1)
                self.assertEqual(choices.sole_spots(room, room, room, k), ())
                self.assertEqual(choices.places_for(room, room, room, k), room)
                self.assertEqual(choices.put_at(room, room, room, k, room[k]), room)
            self.assertEqual(choices.served_of(room, room, room), room)
            self.assertGreaterEqual(len(choices.by_greed(room, room)), stalls.fewest(room, room))
            needed, possible = choices.needed_spots(room, room), choices.possible_spots(room, room)
            self.assertLessEqual(set(needed), set(possible))
            good = choices.good_places(room, room)
            for cell in room:
                self.assertIs(choices.answer_with(room, room, cell) is not None, cell in good)

    def test_choices_in_rooms_of_sixteen_cells(self):
        chance = random.Random(131)
        teeth = tuple(sorted([(x, 0) for x in range(11)] + [(x, 1) for x in range(0, 10, 2)]))
        row = tuple(cell for cell in teeth if cell[1] == 0 and cell[0] < 10)
        self.assertEqual(choices.fewest_but(teeth, teeth, row), 1)
        tips = tuple((x, 1) for x in range(0, 10, 2))
        self.assertEqual(choices.stalls_but(teeth, teeth, row + ((10, 0),)), tips)
        self.assertEqual(choices.stalls_but(teeth, teeth, tuple(sorted(row + ((0, 1), (10, 0))))), None)
        for room in rooms_of(16, 6) + [teeth] + [drawn_room(chance, 16, 6, 100) for _ in range(20)]:
            many = stalls.fewest(room, room)
            self.assertEqual(choices.most_served(room, room, 4)[0] == len(room), many <= 4)
            self.assertLessEqual(set(choices.sure_places(room, room)), set(choices.answers(room, room)[0]))
            for share in (0, 5, 8, 11):
                told = choices.fewest_but(room, room, some_of(chance, room, share))
                self.assertTrue(told is None or told >= many)

    def test_shapes(self):
        for room in (shapes.bar(10, 10), shapes.stairs(20), shapes.comb(10, 10), shapes.corridor(shapes.spiral(12))):
            self.assertTrue(is_room(room))
        for steps in ("ru" * 50, shapes.spiral(12), shapes.zigzag(10)):
            self.assertTrue(shapes.is_corridor(steps))
            told = [shapes.corridor_stretch(steps, i) for i in range(len(steps) + 1)]
            self.assertTrue(all(first <= i <= last for i, (first, last) in enumerate(told)))
            self.assertEqual(len(shapes.corridor_stalls(steps)), len(shapes.corridor_spots(steps)))

    def test_rooms_of_two_hundred_cells_cut_and_put_together(self):
        for room in rooms_of(200, 30):
            for way in "xy":
                parts = cutting.cut_at(room, way, 3)
                self.assertEqual(sorted(cell for part in parts for cell in part), list(room))
            for by in (-999999, -7, 0, 999999):
                for put in (cutting.put_beside, cutting.put_above):
                    told = put(room, room, by)
                    self.assertTrue(told is None or len(told) == 2 * len(room))
                self.assertIsInstance(cutting.gate(room, room, by), tuple)
        for room in rooms_of(60, 12):
            for c in (1, 4, 9):
                least, most = cutting.cut_bounds(room, "x", c)
                self.assertTrue(least <= stalls.fewest(room, room) <= most)

    def test_boards_of_forty_cells_and_forty_deeds(self):
        for room in rooms_of(40, 10) + [tuple((k + n, k) for k in range(20) for n in (0, 1))]:
            room = tuple(sorted(room))
            board = kept.new_board(room)
            for cell in room[:10] * 2:
                for word in ("set", "take"):
                    board = kept.done(board, (word, cell))
            self.assertEqual([len(board["log"]), len(kept.boards(board))], [40, 41])
            again = board
            while again["log"]:
                again = kept.undone(again)
            while again["back"]:
                again = kept.redone(again)
            self.assertEqual(again, board)
            for cell in room[1:11]:
                board = kept.done(board, ("set", cell))
            self.assertTrue(kept.openable(board))
            self.assertIsInstance(kept.wallable(board), tuple)
            self.assertIsInstance(kept.idle(board), tuple)
            self.assertIn(kept.change_by(board, ("take", room[5])), (0, 1))
            self.assertLessEqual(kept.how_many_further(board), stalls.fewest(room, room))

    def test_surveys_of_six_rooms_of_forty_cells(self):
        told = (rooms_of(40, 10) + [surveys.hooks(4)])[:6]
        numbers = surveys.numbers_of(told)
        self.assertEqual([number for _, number, _ in surveys.survey(told)], numbers)
        self.assertEqual(len(surveys.ranked(told)), 6)
        for one, other in zip(told, told[1:]):
            self.assertIsNone(surveys.judge_report(one, surveys.report(one)))
            both = surveys.put_together(one, other)
            self.assertLessEqual(stalls.fewest(both, both), stalls.fewest(one, one) + stalls.fewest(other, other))
            self.assertIn(surveys.compared(one, other), (-1, 0, 1))
            self.assertEqual(len(surveys.like_rooms(one)), 3)
            most = surveys.most_serving(one)
            self.assertEqual(len({many for _, many in surveys.seen_shares(one, list(most))}), 1)

    def test_texts_of_eight_thousand_signs(self):
        big = 10 ** 60 - 1
        log = (("take", (-big, -big)), ("open", (big, big))) * 30 + (("set", (1, 1)),) * 40
        text = deeds.log_text(log)
        self.assertTrue(7900 < len(text) < 8300)
        self.assertEqual(deeds.read_log(text), log)
        for bad in (text + "\n", text[:-1] + "x", "set 1," + "1" * 7990, "set " * 2000, "\n" * 8000):
            for read in (deeds.read_log, deeds.read_deed):
                with self.assertRaises(BadText):
                    read(bad)
            self.assertEqual(Desk(((0, 0),)).say(bad), "what")

    def test_houses_and_desks_of_forty_cells(self):
        for room in rooms_of(40, 10):
            desk = Desk(room)
            house = desk.house()
            for k, cell in enumerate(room[:10]):
                self.assertEqual(desk.say(f"set {cell[0]},{cell[1]}"), str(k + 1))
            for line in ("room", "plan", "stalls", "dark", "spare", "log", "served", "missing", "answer"):
                self.assertGreater(len(desk.say(line)), 0)
            many = int(desk.say("missing"))
            self.assertEqual([desk.say("serve"), desk.say("served"), desk.say("dark")], [str(many), "yes", "-"])
            self.assertEqual([int(desk.say("thin")) > 0, desk.say("spare"), desk.say("served")], [True, "-", "yes"])
            twin = house.twin()
            done = len(house.deeds())
            self.assertEqual([twin.undo() for _ in range(done)], list(reversed(range(done))))
            self.assertEqual([twin.redo() for _ in range(done)], list(range(1, done + 1)))
            self.assertEqual(twin.board(), house.board())
            self.assertIsInstance(House(room).answer(), tuple)


if __name__ == "__main__":
    unittest.main()
