"""[14.4]: a desk, and what it says to each line."""

import copy
import random
import unittest

from nodetour import stalls, texts
from nodetour.deeds import deed_text, log_text
from nodetour.desk import Desk
from nodetour.errors import BadDeed, NothingDone
from nodetour.house import House
from tests.boardgame import dark_of, drawn_deed, idle_of
from tests.drawn import drawn_rooms, small_rooms
from tests.support import SIGNS, some_values
from tests.test_house import Plain, outcome

U = ((0, 0), (0, 1), (1, 0), (2, 0), (2, 1))
SNAKE = ((0, 0), (0, 2), (0, 3), (0, 4), (1, 0), (1, 2), (1, 4), (2, 0), (2, 1), (2, 2), (2, 4))
ROOMS = small_rooms(3, 3)[::9] + drawn_rooms(40, 8) + drawn_rooms(40, 14) + (U, SNAKE)
SHOWN = ("room", "plan", "stalls", "dark", "spare", "log", "served", "missing", "answer")
DONE = ("undo", "redo", "serve", "thin")


def picture(board):
    """Return the text of the plan of a board."""
    xs, ys = [x for x, y in board["room"]], [y for x, y in board["room"]]
    signs = {cell: "#" for cell in board["room"]}
    signs.update({cell: "x" for cell in dark_of(board)})
    signs.update({cell: "o" for cell in board["stalls"]})
    rows = ["".join(signs.get((x, y), ".") for x in range(min(xs), max(xs) + 1))
            for y in range(max(ys), min(ys) - 1, -1)]
    return "\n".join([f"at {min(xs)} {min(ys)}"] + rows)


def line_of(cells):
    return " ".join(f"{x},{y}" for x, y in cells) or "-"


def told_of(board):
    """Return what a desk says to the lines that show a board; the answer is looked over by itself."""
    dark = dark_of(board)
    missing = len(stalls.answer_for(board["room"], dark)[0])
    log = "\n".join(f"{word} {x},{y}" for word, (x, y) in board["log"]) or "nothing"
    return {"room": picture(board).replace("o", "#").replace("x", "#"), "plan": picture(board),
            "stalls": line_of(board["stalls"]), "dark": line_of(dark), "spare": line_of(idle_of(board)), "log": log,
            "served": "no" if dark else "yes", "missing": str(missing)}


class Rows(unittest.TestCase):
    def check_shown(self, desk, plain):
        board = plain.board()
        for line, told in told_of(board).items():
            self.assertEqual(desk.say(line), told, line)
        lines = desk.say("answer").split("\n")
        self.assertEqual(len(lines), 2)
        answer = tuple(map(texts.read_cells, lines))
        self.assertIsNone(stalls.judge_answer(board["room"], board["room"], answer))
        self.assertEqual(desk.house().board(), board)

    def test_drawn_rows(self):
        chance = random.Random(161)
        said = set()
        for first in ROOMS:
            desk, plain = Desk(first), Plain(first)
            for k in range(20):
                line = chance.choice(DONE + ("deed",) * 5)
                if line == "deed":
                    deed = drawn_deed(chance, first, plain.log)
                    line, told = deed_text(deed), plain.do(deed)
                else:
                    told = getattr(plain, line)()
                told = {BadDeed: "what", NothingDone: "refused"}.get(told, str(told))
                self.assertEqual(desk.say(line), told)
                said.add((line.split()[0], told in ("what", "refused", "0")))
                if k % 5 == 0:
                    self.check_shown(desk, plain)
        self.assertEqual({line for line, _ in said}, {"open", "wall", "set", "take"} | set(DONE))
        self.assertEqual(len(said), 16)

    def test_what_is_done_to_the_house_counts_for_say(self):
        for first in ROOMS[::5]:
            desk = Desk(first)
            house = desk.house()
            self.assertIs(desk.house(), house)
            self.assertIsInstance(house, House)
            house.do(("set", first[0]))
            self.assertEqual([desk.say("stalls"), desk.say("log"), desk.say("undo"), outcome(house.undo)],
                             [line_of(first[:1]), log_text((("set", first[0]),)), "0", NothingDone])
            self.assertEqual([desk.say("redo"), house.stalls()], ["1", first[:1]])
            self.assertIs(desk.house(), house)
            twin = house.twin()
            twin.undo()
            self.assertEqual(desk.say("log"), log_text((("set", first[0]),)))


class Lines(unittest.TestCase):
    def test_each_line(self):
        desk = Desk(SNAKE)
        told = [("missing", "2"), ("served", "no"), ("stalls", "-"), ("spare", "-"), ("log", "nothing"),
                ("undo", "refused"), ("redo", "refused"), ("thin", "0"), ("serve", "2"), ("serve", "0"),
                ("served", "yes"), ("missing", "0"), ("dark", "-"), ("undo", "1"), ("redo", "2"), ("redo", "refused"),
                ("open 1,3", "3"), ("open 1,3", "what"), ("undo", "2"), ("open 5,5", "what"), ("wall 1,4", "what"),
                ("redo", "3"), ("room", "at 0 0\n###\n##.\n###\n..#\n###")]
        for line, words in told:
            self.assertEqual(desk.say(line), words, line)
        for stall in desk.house().stalls():
            self.assertEqual(desk.say(f"wall {stall[0]},{stall[1]}"), "what")

    def test_two_lines_of_an_answer(self):
        desk = Desk(SNAKE)
        told = stalls.answer(SNAKE)
        self.assertEqual(desk.say("answer"), texts.cells_text(told[0]) + "\n" + texts.cells_text(told[1]))
        desk.say("serve")
        self.assertEqual(desk.say("answer"), texts.cells_text(told[0]) + "\n" + texts.cells_text(told[1]))

    def test_a_room_far_off(self):
        desk = Desk(((-7, 12), (-6, 12)))
        self.assertEqual([desk.say("set -7,12"), desk.say("plan"), desk.say("room"), desk.say("open -8,12"),
                          desk.say("log")],
                         ["1", "at -7 12\no#", "at -7 12\n##", "2", "set -7,12\nopen -8,12"])

    def check_what(self, desk, value):
        before = copy.deepcopy([desk.house().board(), value])
        self.assertEqual(desk.say(value), "what", value)
        self.assertEqual([desk.house().board(), value], before)

    def test_what_is_said_to_all_else(self):
        desk = Desk(U)
        desk.say("set 0,0")
        desk.say("set 0,1")
        desk.say("undo")
        lines = SHOWN + DONE
        values = [line + more for line in lines for more in (" ", "\n", "s", "x", " 1")]
        values += [told for line in lines for told in (" " + line, line.upper(), line[1:], line[:-1])]
        values += ["", "what", "refused", "set 00,1", "set 0,1\n", "set 0,1\nset 1,0", "set  0,1", "set 0,0",
                   "take 0,1", "wall 0,0", "open 0,0", "open 9,9", "set 1,1", "set -0,1", "set 0,1 ", "Set 0,1",
                   f"open {10 ** 60},1", f"open {10 ** 59},1",
                   ("set", (0, 1)), ["undo"], ("undo",), {"undo": 1}, b"undo", 0, True, None, "set 0,1" * 1000]
        for value in values + some_values():
            if value not in lines:
                self.check_what(desk, value)
        self.assertEqual(desk.say("redo"), "2")

    def test_drawn_texts(self):
        chance = random.Random(162)
        desk = Desk(U)
        for _ in range(3000):
            line = "".join(chance.choice(SIGNS) for _ in range(chance.randrange(9)))
            if line not in SHOWN + DONE:
                self.check_what(desk, line)
        self.check_what(desk, "x" * 8000)
        self.check_what(desk, "\n".join(["set 0,0"] * 1000))


if __name__ == "__main__":
    unittest.main()
