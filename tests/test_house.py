"""[14.2] and [14.3]: a house, through drawn rows of deeds, against a plain list of the deeds."""

import copy
import random
import unittest

from nodetour import kept, stalls
from nodetour.errors import BadDeed, NothingDone
from nodetour.house import House
from tests import reckon, tries
from tests.boardgame import WORDS, board_of, dark_of, drawn_deed, idle_of, is_deed
from tests.drawn import drawn_rooms, of_other_kinds, small_rooms
from tests.support import some_values

U = ((0, 0), (0, 1), (1, 0), (2, 0), (2, 1))
SNAKE = ((0, 0), (0, 2), (0, 3), (0, 4), (1, 0), (1, 2), (1, 4), (2, 0), (2, 1), (2, 2), (2, 4))
ONE = ((7, -7),)
ROOMS = small_rooms(3, 3)[::9] + drawn_rooms(40, 8) + drawn_rooms(60, 14) + (U, SNAKE, ONE)


class Plain:
    """What a house is by its room at first, the deeds done, and those taken back."""

    def __init__(self, first, log=(), back=()):
        self.first, self.log, self.back = first, list(log), list(back)

    def board(self):
        return board_of(self.first, self.log, self.back)

    def do(self, deed):
        if not is_deed(self.first, self.log, *deed):
            return BadDeed
        self.log, self.back = self.log + [deed], []
        return len(self.log)

    def undo(self):
        if not self.log:
            return NothingDone
        self.back.append(self.log.pop())
        return len(self.log)

    def redo(self):
        if not self.back:
            return NothingDone
        self.log.append(self.back.pop())
        return len(self.log)

    def serve(self):
        # Which stalls it sets is free; that they are fewest and enough is looked at below.
        told = kept.further(self.board())[0]
        for stall in told:
            self.do(("set", stall))
        return len(told)

    def thin(self):
        many = 0
        while idle_of(self.board()):
            self.do(("take", idle_of(self.board())[0]))
            many += 1
        return many


def outcome(call, *arguments):
    """Return what a call returns, or the class of what it raises."""
    try:
        return call(*arguments)
    except (BadDeed, NothingDone) as e:
        return type(e)


STEPS = ("do",) * 8 + ("undo",) * 4 + ("redo",) * 4 + ("serve", "thin")


class Rows(unittest.TestCase):
    def check_shown(self, house, plain):
        """Compare all that a house shows."""
        board = plain.board()
        self.assertEqual(house.board(), board)
        dark = dark_of(board)
        self.assertEqual([house.room(), house.stalls(), house.deeds(), house.dark(), house.spare()],
                         [board["room"], board["stalls"], board["log"], dark, idle_of(board)])
        self.assertIs(house.served(), dark == ())
        self.assertEqual(house.missing(), reckon.fewest_stalls(board["room"], dark))
        self.assertIsNone(stalls.judge_answer(board["room"], board["room"], house.answer()))

    def check_step(self, chance, house, plain):
        """Do a drawn step on both, and compare the answers; return what was done, and whether it did something."""
        step = chance.choice(STEPS)
        if step == "do":
            deed = drawn_deed(chance, plain.first, plain.log)
            told = outcome(house.do, deed)
            self.assertEqual(told, plain.do(deed))
        else:
            before = plain.board()
            told = outcome(getattr(house, step))
            self.assertEqual(told, getattr(plain, step)())
            self.check_behind(step, told, before, plain.board())
        self.assertEqual(house.board(), plain.board())
        return step, told in (0, BadDeed, NothingDone)

    def check_behind(self, step, many, before, board):
        """Look at what serve and thin did."""
        if step == "serve":
            self.assertEqual(many, reckon.fewest_stalls(before["room"], dark_of(before)))
            self.assertEqual(dark_of(board), ())
            more = board["log"][len(before["log"]):]
            self.assertEqual([list(more), len(more)], [sorted(more), many])
            self.assertLessEqual({word for word, _ in more}, {"set"})
        if step == "thin":
            self.assertEqual([idle_of(board), dark_of(board)], [(), dark_of(before)])
        if step in ("serve", "thin") and many == 0:
            self.assertEqual(board, before)

    def test_drawn_rows(self):
        chance = random.Random(151)
        seen = set()
        for first in ROOMS:
            house, plain = House(first), Plain(first)
            self.check_shown(house, plain)
            for k in range(25):
                seen.add(self.check_step(chance, house, plain))
                if k % 4 == 0:
                    self.check_shown(house, plain)
            self.assertEqual(kept.boards(house.board()), [board_of(first, plain.log[:k], ())
                                                          for k in range(len(plain.log) + 1)])
        self.assertEqual(len(seen), 2 * len(set(STEPS)))

    def test_twins_go_their_own_ways(self):
        chance = random.Random(152)
        for first in ROOMS[::2]:
            house, plain = House(first), Plain(first)
            for _ in range(8):
                self.check_step(chance, house, plain)
            twin, other = house.twin(), Plain(plain.first, plain.log, plain.back)
            self.assertIsInstance(twin, House)
            self.check_shown(twin, other)
            for _ in range(12):
                self.check_step(chance, *chance.choice(((house, plain), (twin, other))))
            self.assertEqual([house.board(), twin.board()], [plain.board(), other.board()])

    def test_boards_told_stay(self):
        chance = random.Random(153)
        for first in ROOMS[::2]:
            house, plain, told = House(first), Plain(first), []
            for _ in range(12):
                told.append((house.board(), copy.deepcopy(house.board())))
                self.check_step(chance, house, plain)
            for board, before in told:
                self.assertEqual(board, before)


class Edges(unittest.TestCase):
    def test_a_new_house(self):
        house = House(U)
        self.assertEqual([house.board(), house.deeds(), house.room(), house.stalls(), house.dark(), house.spare()],
                         [kept.new_board(U), (), U, (), U, ()])
        self.assertEqual([house.served(), house.missing(), house.thin(), house.board()],
                         [False, 1, 0, kept.new_board(U)])

    def test_what_is_refused_leaves_all(self):
        house = House(U)
        for call in (house.undo, house.redo):
            self.assertIs(outcome(call), NothingDone)
            self.assertEqual(house.board(), kept.new_board(U))
        house.do(("set", (0, 0)))
        house.do(("set", (0, 1)))
        house.undo()
        before = house.board()
        for deed in (("set", (0, 0)), ("set", (1, 1)), ("take", (0, 1)), ("wall", (0, 0)), ("open", (5, 5)), None):
            self.assertIs(outcome(house.do, deed), BadDeed)
            self.assertEqual(house.board(), before)
        # What may be done again is still there.
        self.assertEqual([house.redo(), house.stalls(), outcome(house.redo)], [2, ((0, 0), (0, 1)), NothingDone])

    def test_serve_and_thin_where_nothing_is_to_be_done(self):
        house = House(U)
        self.assertEqual([house.serve(), house.missing(), len(house.deeds())], [1, 0, 1])
        house.do(("open", (1, 1)))
        house.undo()
        before = house.board()
        self.assertEqual([house.serve(), house.thin(), house.board()], [0, 0, before])
        self.assertEqual([house.redo(), len(house.room())], [2, 6])

    def test_serve_takes_what_may_be_done_again_away(self):
        house = House(U)
        house.do(("set", (0, 1)))
        house.undo()
        self.assertEqual([house.serve(), outcome(house.redo)], [1, NothingDone])
        # Each is a deed of its own.
        snake = House(SNAKE)
        self.assertEqual([snake.serve(), snake.served(), snake.undo(), snake.served(), snake.missing()],
                         [2, True, 1, False, 1])
        self.assertEqual([word for word, _ in snake.deeds()], ["set"])

    def test_thin_takes_the_least_first(self):
        house = House(U)
        for cell in ((2, 0), (0, 0), (1, 0)):
            house.do(("set", cell))
        self.assertEqual([house.spare(), house.thin()], [((0, 0), (1, 0), (2, 0)), 2])
        self.assertEqual([house.stalls(), house.deeds()[3:]], [((2, 0),), (("take", (0, 0)), ("take", (1, 0)))])
        self.assertEqual([house.undo(), house.stalls()], [4, ((1, 0), (2, 0))])

    def test_a_twin_stands_alike_also_in_what_can_be_done_again(self):
        house = House(U)
        house.do(("open", (1, 1)))
        house.do(("set", (1, 1)))
        house.undo()
        twin = house.twin()
        self.assertEqual([twin.board(), twin.redo(), twin.undo(), twin.undo(), twin.room()],
                         [house.board(), 2, 1, 0, U])
        self.assertEqual([house.redo(), len(house.room()), twin.deeds()], [2, 6, ()])

    def test_a_board_told_is_the_caller_s_own(self):
        house = House(U)
        house.board()["stalls"] = ((0, 0),)
        house.board().clear()
        self.assertEqual(house.board(), kept.new_board(U))

    def test_the_answer_is_that_of_the_room(self):
        house = House(SNAKE)
        told = house.answer()
        self.assertEqual([len(part) for part in told], [tries.number_of(SNAKE)] * 2)
        for stall in told[0]:
            house.do(("set", stall))
        self.assertEqual([house.answer(), house.served(), house.missing()], [told, True, 0])
        house.do(("open", (1, 3)))
        self.assertEqual(house.answer(), stalls.answer(house.room()))

    def test_any_value(self):
        house = House(U)
        house.do(("set", (1, 0)))
        house.do(("set", (0, 0)))
        house.undo()
        before = house.board()
        values = some_values() + [(word, cell) for word in WORDS for cell in (None, (1, 1, 1), [1, 1], (5, 5))]
        for deed in (("open", (1, 1)), ("wall", (0, 1)), ("set", (0, 1)), ("take", (1, 0))):
            self.assertIs(kept.is_deed(before, deed), True)
            values.extend(of_other_kinds(deed))
        for value in values:
            kept_value = copy.deepcopy(value)
            self.assertIs(outcome(house.do, value), BadDeed, value)
            self.assertEqual([house.board(), value], [before, kept_value])


if __name__ == "__main__":
    unittest.main()
