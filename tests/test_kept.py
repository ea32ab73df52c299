"""Part 12: boards of rooms."""

import copy
import random
import unittest

from nodetour import kept, stalls
from nodetour.errors import BadDeed, NothingDone
from tests import reckon, tries
from tests.boardgame import WORDS, board_of, cells_around, dark_of, drawn_deed, idle_of, is_deed
from tests.drawn import drawn_rooms, of_other_kinds, small_rooms
from tests.support import BIG, some_values

U = ((0, 0), (0, 1), (1, 0), (2, 0), (2, 1))
JAWS = ((0, 0), (0, 1), (0, 2), (1, 0), (1, 2))
ONE = ((7, -7),)
ROOMS = small_rooms(3, 3)[::9] + drawn_rooms(20, 8) + drawn_rooms(20, 14) + (U, JAWS, ONE)


def drawn_logs():
    """Yield pairs (first room, log) of deeds that can be done one behind another, some logs as beginnings of others."""
    chance = random.Random(121)
    for first in ROOMS:
        log = []
        yield first, ()
        for k in range(9):
            deed = drawn_deed(chance, first, log)
            if is_deed(first, log, *deed):
                log.append(deed)
            if k % 3 == 2:
                yield first, tuple(log)


LOGS = list(drawn_logs())


def board_behind(first, log):
    """Return the board behind a log, by deeds done."""
    board = kept.new_board(first)
    for deed in log:
        board = kept.done(board, deed)
    return board


class Deeds(unittest.TestCase):
    def test_new_boards(self):
        for room in ROOMS:
            self.assertEqual(kept.new_board(room), {"room": room, "stalls": (), "first": room, "log": (), "back": ()})

    def test_what_is_a_deed_and_what_it_does(self):
        told = {(word, right): 0 for word in WORDS for right in (True, False)}
        for first, log in LOGS[::2]:
            board = board_behind(first, log)
            self.assertEqual(board, board_of(first, log, ()))
            for cell in cells_around(board["room"]):
                for word in WORDS:
                    right = is_deed(first, log, word, cell)
                    self.assertIs(kept.is_deed(board, (word, cell)), right, (board, word, cell))
                    told[word, right] += 1
                    if right:
                        self.assertEqual(kept.done(board, (word, cell)), board_of(first, log + ((word, cell),), ()))
        self.assertGreater(min(told.values()), 50, told)

    def test_what_can_be_opened_and_walled(self):
        for first, log in LOGS:
            board = board_behind(first, log)
            cells = cells_around(board["room"])
            for told, word in ((kept.openable(board), "open"), (kept.wallable(board), "wall")):
                self.assertEqual(told, tuple(cell for cell in cells if is_deed(first, log, word, cell)))
            x, y = board["room"][-1]
            self.assertIn((x + 1, y), kept.openable(board))

    def test_the_room_must_be_one_behind_open_and_wall(self):
        board = kept.new_board(JAWS)
        told = [(("open", (2, 0)), True), (("open", (3, 0)), False), (("open", (0, 0)), False),
                (("open", (1, 1)), True), (("wall", (0, 1)), False), (("wall", (1, 2)), True),
                (("wall", (1, 1)), False), (("open", (-1, 3)), False), (("open", (BIG, -BIG)), False)]
        for deed, right in told:
            self.assertIs(kept.is_deed(board, deed), right, deed)
        # With (2, 0) and (2, 1) the last cell of a ring would have a hole within.
        for deed in (("open", (2, 0)), ("open", (2, 1))):
            board = kept.done(board, deed)
        self.assertIs(kept.is_deed(board, ("open", (2, 2))), False)
        self.assertNotIn((2, 2), kept.openable(board))
        # No cell of a block may be walled within, none of a room of one cell.
        block = kept.new_board(tuple((x, y) for x in range(3) for y in range(3)))
        self.assertIs(kept.is_deed(block, ("wall", (1, 1))), False)
        self.assertEqual(kept.wallable(block), tuple(cell for cell in block["room"] if cell != (1, 1)))
        self.assertEqual([kept.wallable(kept.new_board(ONE)), kept.is_deed(kept.new_board(ONE), ("wall", ONE[0]))],
                         [(), False])

    def test_stalls(self):
        board = kept.done(kept.new_board(U), ("set", (0, 1)))
        told = [(("set", (0, 1)), False), (("set", (0, 0)), True), (("set", (1, 1)), False), (("take", (0, 1)), True),
                (("take", (0, 0)), False), (("wall", (0, 1)), False), (("wall", (2, 1)), True)]
        for deed, right in told:
            self.assertIs(kept.is_deed(board, deed), right, deed)
        self.assertIs(kept.is_deed(kept.done(board, ("take", (0, 1))), ("wall", (0, 1))), True)
        self.assertEqual(kept.done(board, ("set", (0, 0)))["stalls"], ((0, 0), (0, 1)))

    def check_no_deed(self, board, value):
        before = copy.deepcopy([board, value])
        self.assertIs(kept.is_deed(board, value), False)
        with self.assertRaises(BadDeed):
            kept.done(board, value)
        self.assertEqual([board, value], before)

    def test_any_value(self):
        board = kept.done(kept.new_board(U), ("set", (1, 0)))
        values = some_values() + [(word, cell) for word in ("", "Open", "open ", "o", None, 0, (), [], {}, ("open",))
                                  for cell in ((1, 1), (0, 1), (1, 0))]
        values += [(word, cell) for word in WORDS for cell in (None, (), (1,), (1, 1, 1), "11", [1, 1], ((1, 1),),
                                                               (1, "1"), (1, None), {1: 1}, (1, (1,)), -1)]
        for value in values + [("open",), ("open", (1, 1), ()), (("open", (1, 1)),), "open", ("open", 1, 1)]:
            self.check_no_deed(board, value)

    def test_lists_for_tuples_and_true_for_1(self):
        board = kept.done(kept.new_board(U), ("set", (1, 0)))
        for deed in (("open", (1, 1)), ("wall", (0, 1)), ("set", (0, 0)), ("take", (1, 0))):
            self.assertIs(kept.is_deed(board, deed), True)
            for value in of_other_kinds(deed):
                self.check_no_deed(board, value)


class BackAndAgain(unittest.TestCase):
    def test_by_a_list_of_the_deeds(self):
        for first, log in LOGS:
            board = board_behind(first, log)
            for k in reversed(range(len(log))):
                board = kept.undone(board)
                self.assertEqual(board, board_of(first, log[:k], log[k:][::-1]))
            with self.assertRaises(NothingDone):
                kept.undone(board)
            for k in range(1, len(log) + 1):
                board = kept.redone(board)
                self.assertEqual(board, board_of(first, log[:k], log[k:][::-1]))
            with self.assertRaises(NothingDone):
                kept.redone(board)

    def test_a_deed_done_behind_an_undo(self):
        board = board_behind(U, [("set", (0, 1)), ("open", (1, 1)), ("set", (2, 1))])
        board = kept.undone(kept.undone(board))
        self.assertEqual([board["log"], board["back"], board["room"]],
                         [(("set", (0, 1)),), (("set", (2, 1)), ("open", (1, 1))), U])
        again = kept.redone(board)
        self.assertEqual([again["log"], again["back"], again["stalls"]],
                         [(("set", (0, 1)), ("open", (1, 1))), (("set", (2, 1)),), ((0, 1),)])
        other = kept.done(board, ("take", (0, 1)))
        self.assertEqual([other["log"], other["back"]], [(("set", (0, 1)), ("take", (0, 1))), ()])
        with self.assertRaises(NothingDone):
            kept.redone(other)
        # What is no deed leaves what may be done again.
        with self.assertRaises(BadDeed):
            kept.done(board, ("take", (2, 1)))
        self.assertEqual(kept.redone(board), again)

    def test_boards_ahead_of_each_deed(self):
        for first, log in LOGS:
            board = board_behind(first, log)
            told = [board_of(first, log[:k], ()) for k in range(len(log) + 1)]
            self.assertEqual(kept.boards(board), told)
            if log:
                # What may be done again is not told, and what is no more done neither.
                self.assertEqual(kept.boards(kept.undone(board)), told[:-1])
        self.assertEqual(kept.boards(kept.new_board(ONE)), [kept.new_board(ONE)])

    def test_no_board_told_changes(self):
        chance = random.Random(122)
        for first in ROOMS[::2]:
            board = kept.new_board(first)
            told = [(board, copy.deepcopy(board))]
            for _ in range(14):
                deed = drawn_deed(chance, first, board["log"])
                step = chance.choice(("done", "done", "done", "undone", "redone", "boards"))
                if step == "done" and kept.is_deed(board, deed):
                    board = kept.done(board, deed)
                elif step == "undone" and board["log"]:
                    board = kept.undone(board)
                elif step == "redone" and board["back"]:
                    board = kept.redone(board)
                elif step == "boards":
                    told.extend((one, copy.deepcopy(one)) for one in kept.boards(board))
                for look in (kept.dark_now, kept.further, kept.idle, kept.openable, kept.wallable):
                    self.assertEqual(look(board), look(copy.deepcopy(board)))
                told.append((board, copy.deepcopy(board)))
            for one, before in told:
                self.assertEqual(one, before)


class Shown(unittest.TestCase):
    def test_dark_cells_and_idle_stalls(self):
        idle = 0
        for first, log in LOGS:
            board = board_behind(first, log)
            dark = dark_of(board)
            self.assertEqual(kept.dark_now(board), dark)
            self.assertIs(kept.all_served(board), dark == ())
            self.assertEqual(kept.idle(board), idle_of(board))
            idle += len(kept.idle(board))
        self.assertGreater(idle, 10)

    def test_further_stalls_by_trying(self):
        numbers = set()
        for first, log in LOGS:
            board = board_behind(first, log)
            room, dark = board["room"], dark_of(board)
            told, apart = kept.further(board)
            many = reckon.fewest_stalls(room, dark)
            self.assertEqual([kept.how_many_further(board), len(told), len(apart), reckon.most_apart(room, dark)],
                             [many] * 4)
            self.assertIsNone(stalls.judge_answer(room, dark, (told, apart)))
            self.assertTrue(reckon.serve(room, board["stalls"] + told, room))
            self.assertIs(many == 0, kept.all_served(board))
            if not board["stalls"]:
                self.assertEqual(many, tries.number_of(room))
            numbers.add(many)
        self.assertTrue({0, 1, 2} <= numbers)

    def test_how_deeds_change_the_number(self):
        changes = {word: set() for word in WORDS}
        for first, log in LOGS[::2]:
            board = board_behind(first, log)
            many = reckon.fewest_stalls(board["room"], dark_of(board))
            for cell in cells_around(board["room"]):
                for word in WORDS:
                    if is_deed(first, log, word, cell):
                        other = board_of(first, log + ((word, cell),), ())
                        change = reckon.fewest_stalls(other["room"], dark_of(other)) - many
                        self.assertEqual(kept.change_by(board, (word, cell)), change)
                        changes[word].add(change)
        self.assertEqual([changes["set"], changes["take"]], [{0, -1}, {0, 1}])
        self.assertTrue({-1, 0, 1} <= changes["open"] | changes["wall"])

    def test_edges(self):
        board = kept.new_board(ONE)
        self.assertEqual([kept.dark_now(board), kept.all_served(board), kept.further(board), kept.idle(board),
                          kept.how_many_further(board)], [ONE, False, (ONE, ONE), (), 1])
        board = kept.done(board, ("set", ONE[0]))
        self.assertEqual([kept.dark_now(board), kept.all_served(board), kept.further(board), kept.idle(board),
                          kept.how_many_further(board)], [(), True, ((), ()), (), 0])
        # Each of two could go by itself, though not both.
        both = board_behind(U, [("set", (1, 0)), ("set", (0, 0))])
        self.assertEqual(kept.idle(both), ((0, 0), (1, 0)))
        with self.assertRaises(BadDeed):
            kept.change_by(both, ("set", (0, 0)))


if __name__ == "__main__":
    unittest.main()
