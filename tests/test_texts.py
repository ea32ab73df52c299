"""[2.1] to [2.4]: texts written and read, and the edges that the document names."""

import copy
import itertools
import random
import unittest

from nodetour import rooms, texts
from nodetour.errors import BadText
from tests.support import HOOK, RING, SIGNS, lots_within, some_lots, some_values

READERS = (texts.read_lot, texts.read_plan, texts.read_cells, texts.read_weights, texts.read_joins, texts.read_way)
LOTS = some_lots(200, 7) + list(lots_within(3, 3)) + [(), ((0, 0),), HOOK, RING]
NINE = 999999999


def place_of(read, text):
    """Return the place that a reader tells, "read" if it reads the text."""
    try:
        read(text)
    except BadText as e:
        return e.place
    return "read"


def some_plans():
    """Return a list of plans with stalls and spots of all kinds."""
    chance = random.Random(3)
    plans = []
    for room in LOTS:
        if room:
            stalls = tuple(cell for cell in room if chance.randrange(3) == 0)
            spots = tuple(cell for cell in room if chance.randrange(2) == 0)
            plans.extend([(room, stalls, spots), (room, (), spots), (room, stalls, ()), (room, room, room)])
    return plans


def some_cells(chance):
    """Return a tuple of cells in any sequence, some of them twice."""
    ends = (0, 1, -1, 10, -10, 100200300, NINE, -NINE)
    return tuple((chance.choice(ends), chance.choice(ends)) for _ in range(chance.randrange(6)))


class Lots(unittest.TestCase):
    def test_written(self):
        self.assertEqual(texts.lot_text(()), "empty")
        self.assertEqual(texts.lot_text(((-12, 7),)), "at -12 7\n#")
        self.assertEqual(texts.lot_text(RING), "at 0 0\n###\n#.#\n###")
        self.assertEqual(texts.lot_text(((0, -1), (2, -3))), "at 0 -3\n#..\n...\n..#")
        self.assertEqual(texts.lot_text(((-NINE, NINE),)), "at -999999999 999999999\n#")

    def test_the_greatest_y_stands_first(self):
        self.assertEqual(texts.lot_text(((0, 0), (0, 1), (1, 1))), "at 0 0\n##\n#.")
        self.assertEqual(texts.read_lot("at 5 -1\n##\n#."), ((5, -1), (5, 0), (6, 0)))

    def test_what_was_written_is_read_again(self):
        for lot in LOTS:
            self.assertEqual(texts.read_lot(texts.lot_text(lot)), lot)

    def test_what_was_read_is_written_again_the_same(self):
        many = 0
        for signs in itertools.product("#.\n", repeat=7):
            text = "at -3 10\n" + "".join(signs)
            if place_of(texts.read_lot, text) == "read":
                many += 1
                self.assertEqual(texts.lot_text(texts.read_lot(text)), text)
        self.assertGreater(many, 20)
        self.assertEqual(texts.lot_text(texts.read_lot("empty")), "empty")

    def test_white_rims(self):
        for lines in (".", "..", ".\n.", "#.", ".#", "..\n##", "##\n..", "#.\n#.", ".#\n.#", "...\n.#.\n...",
                      ".#.\n###\n.#.\n..."):
            self.assertEqual(place_of(texts.read_lot, "at 0 0\n" + lines), 0, lines)
        self.assertEqual(texts.read_lot("at 0 0\n.#\n#."), ((0, 0), (1, 1)))
        self.assertEqual(texts.read_lot("at 0 0\n#.#"), ((0, 0), (2, 0)))

    def test_empty_and_its_beginnings(self):
        self.assertEqual(texts.read_lot("empty"), ())
        for n in range(5):
            self.assertEqual(place_of(texts.read_lot, "empty"[:n]), n)
        self.assertEqual(place_of(texts.read_lot, "emptyempty"), 5)
        self.assertEqual(place_of(texts.read_lot, "empty\n"), 5)
        self.assertEqual(place_of(texts.read_lot, "empti"), 4)
        self.assertEqual(place_of(texts.read_lot, "et 0 0\n#"), 1)
        self.assertEqual(place_of(texts.read_lot, "ampty"), 1)
        self.assertEqual(place_of(texts.read_lot, "Empty"), 0)

    def test_cut_short_at_each_place(self):
        text = "at -1 23\n#.\n##"
        for n in range(len(text)):
            # The lot's own line is whole with one sign, and has a white last column with two.
            told = {10: "read", 11: 0}.get(n, n)
            self.assertEqual(place_of(texts.read_lot, text[:n]), told, n)

    def test_lines_of_unlike_lengths(self):
        for text, place in (("at 0 0\n##\n#", 11), ("at 0 0\n##\n#\n##", 11), ("at 0 0\n##\n###", 12), ("at 0 0\n", 7),
                            ("at 0 0\n\n#", 7), ("at 0 0\n#\n", 9), ("at 0 0\n#\n\n#", 9), ("at 0 0\n##\n##\n", 13),
                            ("at 0 0\n#o", 8), ("at 0 0\n##\n#x", 11), ("at 0 0\n# ", 8), ("at 0 0\r\n#", 6)):
            self.assertEqual(place_of(texts.read_lot, text), place, text)

    def test_integers(self):
        for text, place in (("at 00 0\n#", 4), ("at 01 0\n#", 4), ("at -0 0\n#", 4), ("at 0 -0\n#", 6),
                            ("at --1 0\n#", 4), ("at +1 0\n#", 3),
                            ("at 1234567890 0\n#", 12), ("at -1234567890 0\n#", 13),
                            ("at 0 1234567890\n#", 14), ("at  0 0\n#", 3), ("at 0  0\n#", 5), ("at 0 0 \n#", 6),
                            ("at 0,0\n#", 4), ("at 0\n#", 4), ("at -\n#", 4), (" at 0 0\n#", 0), ("AT 0 0\n#", 0)):
            self.assertEqual(place_of(texts.read_lot, text), place, text)
        self.assertEqual(texts.read_lot("at -999999999 999999999\n#"), ((-NINE, NINE),))


class Plans(unittest.TestCase):
    def test_written(self):
        self.assertEqual(texts.plan_text(((0, 0),), (), ()), "at 0 0\n#")
        self.assertEqual(texts.plan_text(((0, 0), (1, 0), (2, 0), (3, 0)), ((1, 0), (3, 0)), ((2, 0), (3, 0))),
                         "at 0 0\n#ox*")

    def test_all_marks_for_all_plans(self):
        for room, stalls, spots in some_plans():
            lines = texts.plan_text(room, stalls, spots).split("\n")
            x0, y0, x1, y1 = rooms.box_of(room)
            self.assertEqual(lines[0], f"at {x0} {y0}")
            self.assertEqual(len(lines), y1 - y0 + 2)
            for y in range(y0, y1 + 1):
                for x in range(x0, x1 + 1):
                    cell = (x, y)
                    told = {(0, 0, 0): ".", (1, 0, 0): "#", (1, 1, 0): "o", (1, 0, 1): "x", (1, 1, 1): "*"}
                    mark = told[cell in room, cell in stalls, cell in spots]
                    self.assertEqual(lines[1 + y1 - y][x - x0], mark)

    def test_what_was_written_is_read_again(self):
        for plan in some_plans():
            self.assertEqual(texts.read_plan(texts.plan_text(*plan)), plan)

    def test_what_was_read_is_written_again_the_same(self):
        for signs in itertools.product("#.ox*\n", repeat=4):
            text = "at 0 -9\n" + "".join(signs)
            if place_of(texts.read_plan, text) == "read":
                self.assertEqual(texts.plan_text(*texts.read_plan(text)), text)

    def test_a_line_or_column_is_white_only_if_it_has_points_alone(self):
        for mark in "#ox*":
            self.assertEqual(texts.read_plan("at 0 0\n" + mark)[0], ((0, 0),))
        self.assertEqual(texts.read_plan("at 0 0\no.\n.x"), (((0, 1), (1, 0)), ((0, 1),), ((1, 0),)))
        for lines in (".", "o.", ".x", "*\n.", ".\no", "ox\n..", "o.\nx."):
            self.assertEqual(place_of(texts.read_plan, "at 0 0\n" + lines), 0, lines)

    def test_empty_and_its_beginnings_do_not_count(self):
        for n in range(6):
            self.assertEqual(place_of(texts.read_plan, "empty"[:n]), 0)
        self.assertEqual(place_of(texts.read_plan, "emptyx"), 0)

    def test_signs_of_plans_are_none_of_lots(self):
        for mark in "ox*":
            self.assertEqual(place_of(texts.read_lot, "at 0 0\n#" + mark), 8)
        for mark in "OX+ ,0":
            self.assertEqual(place_of(texts.read_plan, "at 0 0\no" + mark), 8)
        self.assertEqual(place_of(texts.read_plan, "at 0 0\nox\no"), 11)
        self.assertEqual(place_of(texts.read_plan, "at 0 0\nox\noxo"), 12)

    def test_cut_short_at_each_place(self):
        text = "at 0 -7\nox\n*#"
        for n in range(len(text)):
            told = "read" if n in (9, 10) else n
            self.assertEqual(place_of(texts.read_plan, text[:n]), told, n)


class Lines(unittest.TestCase):
    def test_written(self):
        self.assertEqual([texts.cells_text(()), texts.weights_text(()), texts.joins_text(())], ["-", "-", "-"])
        self.assertEqual(texts.cells_text(((3, 0), (-1, 2), (3, 0))), "3,0 -1,2 3,0")
        self.assertEqual(texts.weights_text((((1, -1), 12), ((0, 0), 0))), "1,-1:12 0,0:0")
        self.assertEqual(texts.joins_text((((0, 0), (-1, 0)), ((5, 6), (7, 8)))), "0,0+-1,0 5,6+7,8")

    def test_without_cells(self):
        for read in (texts.read_cells, texts.read_weights, texts.read_joins):
            self.assertEqual(read("-"), ())
            for text, place in (("", 0), ("--", 1), ("- ", 1), (" -", 0), ("-\n", 1), ("-0", 1), ("- 1,1", 1)):
                self.assertEqual(place_of(read, text), place, text)

    def test_read_as_it_stands_there(self):
        self.assertEqual(texts.read_cells("3,0 -1,2 3,0"), ((3, 0), (-1, 2), (3, 0)))
        self.assertEqual(texts.read_weights("1,-1:12 1,-1:0"), (((1, -1), 12), ((1, -1), 0)))
        self.assertEqual(texts.read_joins("5,6+5,6 0,0+-1,0"), (((5, 6), (5, 6)), ((0, 0), (-1, 0))))

    def test_what_was_written_is_read_again(self):
        chance = random.Random(4)
        for _ in range(500):
            cells, others = some_cells(chance), some_cells(chance)
            weights = tuple((cell, chance.choice((0, 1, 10, NINE))) for cell in cells)
            joins = tuple(zip(cells, others))
            self.assertEqual(texts.read_cells(texts.cells_text(cells)), cells)
            self.assertEqual(texts.read_weights(texts.weights_text(weights)), weights)
            self.assertEqual(texts.read_joins(texts.joins_text(joins)), joins)

    def test_what_was_read_is_written_again_the_same(self):
        for text in ("-", "0,0", "-1,10 -999999999,999999999", "7,7 7,7 6,6"):
            self.assertEqual(texts.cells_text(texts.read_cells(text)), text)
        for text in ("-", "0,0:0", "-1,10:100 -1,10:999999999"):
            self.assertEqual(texts.weights_text(texts.read_weights(text)), text)
        for text in ("-", "0,0+0,0", "-1,-1+-1,-1 5,6+7,8"):
            self.assertEqual(texts.joins_text(texts.read_joins(text)), text)

    def test_places_of_cells(self):
        for text, place in (("1", 1), ("1,", 2), ("1,2 ", 4), ("1,2  3,4", 4), ("1,2,3", 3), ("1, 2", 2), (" 1,2", 0),
                            ("1,2\n3,4", 3), ("00,1", 1), ("01,1", 1), ("1,-0", 3), ("-0,1", 1), ("+1,1", 0),
                            ("1234567890,1", 9), ("-1234567890,1", 10), ("1,1234567890", 11), ("1,2:3", 3),
                            ("1,2 -", 5), ("(1,2)", 0), ("1,2\t3,4", 3), ("1.2", 1), ("empty", 0)):
            self.assertEqual(place_of(texts.read_cells, text), place, text)

    def test_places_of_weights(self):
        for text, place in (("1,2", 3), ("1,2:", 4), ("1,2:-1", 4), ("1,2:-0", 4), ("1,2:00", 5), ("1,2:01", 5),
                            ("1,2:1234567890", 13), ("1,2:3 ", 6), ("1,2:3,4:5", 5), ("1,2+3", 3), ("1,2:3:4", 5),
                            ("1,2: 3", 4), ("1,2:3  4,5:6", 6), ("1:2", 1)):
            self.assertEqual(place_of(texts.read_weights, text), place, text)

    def test_places_of_joins(self):
        for text, place in (("1,2", 3), ("1,2+", 4), ("1,2+3", 5), ("1,2+3,", 6), ("1,2+3,4+5,6", 7), ("1,2++3,4", 4),
                            ("1,2+-3,-0", 8), ("1,2 3,4", 3), ("1,2+3,4 ", 8), ("1,2+3,4  5,6+7,8", 8), ("1,2:3", 3)):
            self.assertEqual(place_of(texts.read_joins, text), place, text)

    def test_cut_short_at_each_place(self):
        for read, text, whole in ((texts.read_cells, "-12,30 4,-5", (1, 5, 6)),
                                  (texts.read_weights, "-1,20:30 4,-5:0", (1, 7, 8)),
                                  (texts.read_joins, "-1,2+30,-45 6,7+8,9", (1, 10, 11))):
            for n in range(len(text)):
                told = "read" if n in whole else n
                self.assertEqual(place_of(read, text[:n]), told, (text, n))


class Ways(unittest.TestCase):
    def test_read(self):
        for text in ("", "r", "rlud", "uuddrrll", "r" * 12000):
            self.assertEqual(texts.read_way(text), text)

    def test_place_of_the_first_other_sign(self):
        for text, place in (("x", 0), ("rx", 1), ("rlR", 2), ("rl ud", 2), ("-", 0), ("rlud\n", 4), ("xrx", 0),
                            ("ruxx", 2)):
            self.assertEqual(place_of(texts.read_way, text), place, text)


    def test_each_other_sign(self):
        for sign in set(SIGNS) - set("rlud"):
            self.assertEqual(place_of(texts.read_way, "ru" + sign + "d"), 2)


class WrongValues(unittest.TestCase):
    def test_each_sign_that_stands_for_no_cell(self):
        for read, signs in ((texts.read_lot, "#."), (texts.read_plan, "#.ox*")):
            for sign in set(SIGNS) - set(signs + "\n"):
                self.assertEqual(place_of(read, "at 0 0\n#" + sign + "#"), 8)

    def test_no_text(self):
        for read in READERS:
            for value in (None, True, False, 0, 5, (), [], {}, ["at 0 0\n#"], ("-",), {"-": 1}, ("r", "u"), ["r"],
                          ((0, 0),), [(0, 0)]):
                self.assertEqual(place_of(read, value), 0, value)

    def test_any_value(self):
        for read in READERS:
            for value in some_values():
                before = copy.deepcopy(value)
                place = place_of(read, value)
                if not isinstance(value, str):
                    self.assertEqual(place, 0)
                elif place != "read":
                    self.assertIs(type(place), int)
                    self.assertTrue(0 <= place <= len(value))
                self.assertEqual(value, before)

    def test_long_texts(self):
        self.assertEqual(len(texts.read_lot("at 0 0\n" + "#" * 11990)), 11990)
        self.assertEqual(len(texts.read_lot("at 0 0" + "\n#" * 5990)), 5990)
        self.assertEqual(len(texts.read_cells(" ".join(["1,1"] * 3000))), 3000)
        self.assertEqual(place_of(texts.read_lot, "at 0 0\n" + "#" * 11990 + "!"), 11997)


if __name__ == "__main__":
    unittest.main()
