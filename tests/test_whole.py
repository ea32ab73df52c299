"""Part 0 over the whole program: what its files promise together."""

import copy
import itertools
import random
import unittest

from nodetour import choices, cutting, deeds, desk, fields, helly, house, joining, kept, rooms, shapes, stalls, surveys
from nodetour import texts, ways, webs, weights
from nodetour.errors import BadDeed, BadText, NothingDone, RoomError
from tests import reckon
from tests.boardgame import drawn_deed, is_deed
from tests.drawn import altered, drawn_rooms, of_other_kinds, small_rooms, some_of
from tests.support import nested, some_values

U = ((0, 0), (0, 1), (1, 0), (2, 0), (2, 1))
SNAKE = ((0, 0), (0, 2), (0, 3), (0, 4), (1, 0), (1, 2), (1, 4), (2, 0), (2, 1), (2, 2), (2, 4))
LOT, STALLS = ((0, 0), (1, 2), (2, 4)), ((0, 2), (2, 0))
WEB = webs.web_of(SNAKE, SNAKE)
WEIGHTS = (((0, 0), 2), ((1, 2), 1), ((2, 4), 3))
BOARD = kept.undone(kept.done(kept.done(kept.new_board(SNAKE), ("set", (0, 2))), ("open", (1, 3))))
ROOMS = small_rooms(3, 3)[::5] + drawn_rooms(50, 14) + drawn_rooms(30, 30) + (U, SNAKE, surveys.hooks(3))

# What looks at any value, each as a function of this value alone.
LOOKS = {
    "is_cell": rooms.is_cell, "is_lot": rooms.is_lot, "is_room": rooms.is_room, "is_web": webs.is_web,
    "is_corridor": shapes.is_corridor,
    "is_way": lambda value: ways.is_way(SNAKE, (0, 0), (2, 2), value),
    "is_bare_way": lambda value: webs.is_bare_way(WEB, value),
    "is_bare_round": lambda value: webs.is_bare_round(WEB, value),
    "is_weights": lambda value: weights.is_weights(SNAKE, value),
    "is_deed": lambda value: kept.is_deed(BOARD, value),
}
JUDGES = {
    "judge_room": rooms.judge_room,
    "judge_way": lambda value: ways.judge_way(SNAKE, (0, 0), (2, 2), value),
    "judge_field": lambda value: fields.judge_field(SNAKE, (0, 2), value),
    "judge_common": lambda value: fields.judge_common(SNAKE, LOT[:2], value),
    "judge_two_pair": lambda value: webs.judge_two_pair(WEB, (0, 0), (1, 4), value),
    "judge_log": lambda value: joining.judge_log(WEB, value),
    "judge_split": lambda value: joining.judge_split(WEB, value),
    "judge_answer": lambda value: stalls.judge_answer(SNAKE, SNAKE, value),
    "judge_stalls": lambda value: stalls.judge_stalls(SNAKE, SNAKE, value),
    "judge_spots": lambda value: stalls.judge_spots(SNAKE, SNAKE, value),
    "judge_plan": lambda value: stalls.judge_plan(SNAKE, STALLS, LOT, value),
    "judge_meeting": lambda value: helly.judge_meeting(SNAKE, LOT, value),
    "judge_shifts": lambda value: helly.judge_shifts(SNAKE, LOT, value),
    "judge_weights": lambda value: weights.judge_weights(SNAKE, value),
    "judge_setting": lambda value: weights.judge_setting(SNAKE, WEIGHTS, value),
    "judge_apart": lambda value: weights.judge_apart(SNAKE, WEIGHTS, value),
    "judge_weighted": lambda value: weights.judge_weighted(SNAKE, WEIGHTS, value),
    "judge_report": lambda value: surveys.judge_report(SNAKE, value),
}
READERS = {"read_lot": texts.read_lot, "read_plan": texts.read_plan, "read_cells": texts.read_cells,
           "read_weights": texts.read_weights, "read_joins": texts.read_joins, "read_way": texts.read_way,
           "read_deed": deeds.read_deed, "read_log": deeds.read_log}


def what_the_package_returns():
    """Return a dict of values of all kinds that the package returns: what its judges let, and some more."""
    log = joining.log_of(WEB)
    return {
        "judge_room": SNAKE, "judge_way": ways.first_way(SNAKE, (0, 0), (2, 2)),
        "judge_field": fields.field(SNAKE, (0, 2)), "judge_common": fields.common_stalls(SNAKE, LOT[:2]),
        "judge_two_pair": webs.two_pair_paper(WEB, (0, 0), (1, 4)), "judge_log": log,
        "judge_split": joining.split_of(WEB), "judge_answer": stalls.answer(SNAKE),
        "judge_stalls": stalls.answer(SNAKE)[0], "judge_spots": stalls.answer(SNAKE)[1],
        "judge_plan": stalls.plan_for(SNAKE, STALLS, LOT), "judge_meeting": helly.meeting(SNAKE, LOT),
        "judge_shifts": helly.shifts(SNAKE, LOT), "judge_weights": weights.even_weights(LOT, 2),
        "judge_setting": weights.weighted_answer(SNAKE, WEIGHTS)[0],
        "judge_apart": weights.weighted_answer(SNAKE, WEIGHTS)[1],
        "judge_weighted": weights.weighted_answer(SNAKE, WEIGHTS), "judge_report": surveys.report(SNAKE),
        "cell": SNAKE[0], "web": WEB, "papers": joining.log_papers(WEB, log), "deed": ("set", (0, 0)),
        "corridor": shapes.spiral(3), "board": BOARD, "boards": kept.boards(BOARD),
        "survey": surveys.survey([SNAKE]), "fields": fields.all_fields(SNAKE),
    }


def kinds_of(value):
    """Return the classes of a value and of all within it, so that True is not taken for 1."""
    if isinstance(value, dict):
        return [dict] + [(kinds_of(key), kinds_of(part)) for key, part in value.items()]
    return [type(value)] + ([kinds_of(part) for part in value] if isinstance(value, (list, tuple)) else [value])


class AnyValue(unittest.TestCase):
    def all_values(self):
        chance = random.Random(171)
        values = some_values() + [nested((0, 0), 400, kind) for kind in (tuple, list, dict)]
        for value in what_the_package_returns().values():
            values.append(value)
            values.extend(of_other_kinds(value))
            for _ in range(20):
                values.append(altered(chance, altered(chance, value)))
        return values

    def test_is_and_judges_tell_of_any_value(self):
        let = dict.fromkeys(list(LOOKS) + list(JUDGES), 0)
        for value in self.all_values():
            before = kinds_of(value)
            for name, look in LOOKS.items():
                told = look(value)
                self.assertIn(type(told), (bool,), name)
                let[name] += told
            for name, judge in JUDGES.items():
                fault = judge(value)
                self.assertTrue(fault is None or type(fault) is tuple and type(fault[0]) is str, name)
                let[name] += fault is None
            self.assertEqual(kinds_of(value), before)
        self.assertGreater(min(let.values()), 0, let)

    def test_is_tells_what_the_judge_tells(self):
        for value in self.all_values():
            self.assertIs(rooms.is_room(value), rooms.judge_room(value) is None)
            self.assertIs(LOOKS["is_way"](value), JUDGES["judge_way"](value) is None)
            self.assertIs(LOOKS["is_weights"](value), JUDGES["judge_weights"](value) is None)

    def test_papers_of_the_package_are_let(self):
        for name, value in what_the_package_returns().items():
            if name in JUDGES:
                self.assertIsNone(JUDGES[name](value), name)
                if not isinstance(value, str):
                    for other in of_other_kinds(value):
                        self.assertIsNotNone(JUDGES[name](other), (name, other))

    def test_readers_raise_nothing_but_what_is_told(self):
        place = house.House(SNAKE)
        talk = desk.Desk(SNAKE)
        for value in self.all_values():
            before = kinds_of(value)
            for name, read in READERS.items():
                try:
                    read(value)
                except BadText as e:
                    self.assertIs(type(e.place), int)
                    self.assertTrue(0 <= e.place <= (len(value) if isinstance(value, str) else 0), name)
            self.assertIs(type(talk.say(value)), str)
            if not kept.is_deed(place.board(), value):
                with self.assertRaises(BadDeed):
                    place.do(value)
            self.assertEqual(kinds_of(value), before)

    def test_errors_of_the_package(self):
        for call, kind in ((lambda: texts.read_way("x"), BadText), (lambda: deeds.read_log("x"), BadText),
                           (lambda: kept.done(BOARD, None), BadDeed), (house.House(U).undo, NothingDone),
                           (lambda: kept.undone(kept.new_board(U)), NothingDone), (house.House(U).redo, NothingDone)):
            with self.assertRaises(RoomError) as caught:
                call()
            self.assertIs(type(caught.exception), kind)


class Kept(unittest.TestCase):
    """Nothing that is passed is modified or kept, and equal calls return equal answers."""

    CALLS = (
        lambda: (rooms.lot_of, [[(1, 0), (0, 0), (1, 0)]]), lambda: (fields.lit, [U, [(0, 1), (0, 1)]]),
        lambda: (fields.dark_in, [U, U, [(0, 1)]]), lambda: (fields.serve_all, [U, U, [(0, 1)]]),
        lambda: (fields.alone_served, [U, [(0, 1), (2, 1)]]), lambda: (fields.walk_lit, [U, ((0, 1), (0, 0))]),
        lambda: (surveys.survey, [[U, SNAKE]]), lambda: (surveys.numbers_of, [[SNAKE, U]]),
        lambda: (surveys.ranked, [[SNAKE, U]]), lambda: (surveys.seen_shares, [U, [(0, 1), (1, 0)]]),
        lambda: (surveys.like_rooms, [U]), lambda: (surveys.report, [SNAKE]), lambda: (kept.new_board, [U]),
        lambda: (kept.is_deed, [copy.deepcopy(BOARD), ["set", [0, 0]]]),
        lambda: (kept.done, [copy.deepcopy(BOARD), ("set", (0, 0))]), lambda: (kept.boards, [copy.deepcopy(BOARD)]),
        lambda: (kept.undone, [copy.deepcopy(BOARD)]), lambda: (kept.redone, [copy.deepcopy(BOARD)]),
        lambda: (kept.dark_now, [copy.deepcopy(BOARD)]), lambda: (kept.all_served, [copy.deepcopy(BOARD)]),
        lambda: (kept.further, [copy.deepcopy(BOARD)]), lambda: (kept.how_many_further, [copy.deepcopy(BOARD)]),
        lambda: (kept.idle, [copy.deepcopy(BOARD)]), lambda: (kept.openable, [copy.deepcopy(BOARD)]),
        lambda: (kept.wallable, [copy.deepcopy(BOARD)]),
        lambda: (kept.change_by, [copy.deepcopy(BOARD), ("take", (0, 2))]),
        lambda: (stalls.answer_for, [SNAKE, LOT]), lambda: (helly.balanced, [SNAKE, SNAKE, 10]),
        lambda: (weights.weighted_answer, [SNAKE, WEIGHTS]), lambda: (choices.answers, [SNAKE, SNAKE]),
        lambda: (choices.answer_with, [SNAKE, SNAKE, (2, 1)]), lambda: (cutting.cut_at, [SNAKE, "x", 1]),
        lambda: (stalls.judge_answer, [SNAKE, LOT, [[(0, 0)], {"a": [1]}]]),
        lambda: (surveys.judge_report, [SNAKE, (2, [(0, 0)], {"a": [1]}, [])]),
        lambda: (texts.weights_text, [WEIGHTS]), lambda: (deeds.log_text, [BOARD["log"]]),
        lambda: (deeds.read_log, ["set 1,1\nopen 2,1"]), lambda: (shapes.shape_room, ["comb", (3, 2)]),
    )

    def test_arguments_stay_and_answers_are_equal(self):
        for made in self.CALLS:
            call, arguments = made()
            before = kinds_of(arguments)
            told = call(*arguments)
            self.assertEqual(kinds_of(arguments), before, call)
            self.assertEqual(kinds_of(call(*arguments)), kinds_of(told), call)
            again, others = made()
            self.assertEqual(kinds_of(again(*others)), kinds_of(told), call)

    def test_what_callers_change_in_answers_stays_their_own(self):
        for made in self.CALLS:
            call, arguments = made()
            told = call(*arguments)
            before = copy.deepcopy(told)
            # Of boards callers change nothing within; a list of boards is the caller's own.
            if isinstance(told, list):
                told.reverse()
                told.append(None)
                self.assertEqual(call(*arguments), before)
                self.assertEqual(kinds_of(arguments), kinds_of(made()[1]))

    def test_lists_passed_may_change_later(self):
        cells = [(0, 1), (2, 1)]
        told = fields.alone_served(U, cells)
        before = copy.deepcopy(told)
        cells.clear()
        self.assertEqual(told, before)
        told[0] = ()
        self.assertEqual(fields.alone_served(U, [(0, 1), (2, 1)]), before)


def number_of(room):
    return stalls.fewest(room, room)


class Together(unittest.TestCase):
    def test_as_few_stalls_as_most_spots_apart(self):
        chance = random.Random(172)
        for room in ROOMS:
            for lot in (room, some_of(chance, room, 6)):
                told, spots = stalls.answer_for(room, lot)
                self.assertEqual(len(told), len(spots))
                self.assertTrue(reckon.serve(room, told, lot) and set(spots) <= set(lot))
                self.assertFalse(any(reckon.tied(room, *pair) for pair in itertools.combinations(spots, 2)))
                even = weights.weighted_answer(room, weights.even_weights(lot, 2)) if len(lot) < 20 else None
                self.assertTrue(even is None or weights.size_of(even[0]) == 2 * len(told))
                self.assertEqual(helly.load(room, lot), len(helly.shifts(room, lot)))
                self.assertIs(len(told) == 1, helly.meeting(room, lot)[0] == "stall")

    def test_papers_are_let_by_their_judges(self):
        chance = random.Random(173)
        for room in ROOMS:
            lot = some_of(chance, room, 8)
            told, spots = stalls.answer_for(room, lot)
            web = webs.contrary(webs.web_of(room, lot))
            weighed = tuple((spot, chance.randrange(4)) for spot in lot)
            faults = [stalls.judge_answer(room, lot, (told, spots)), stalls.judge_stalls(room, lot, told),
                      stalls.judge_spots(room, lot, spots), surveys.judge_report(room, surveys.report(room)),
                      stalls.judge_plan(room, told, lot, stalls.plan_for(room, told, lot)),
                      joining.judge_log(web, joining.log_of(web)), joining.judge_split(web, joining.split_of(web)),
                      helly.judge_meeting(room, lot, helly.meeting(room, lot)),
                      helly.judge_shifts(room, lot, helly.shifts(room, lot)),
                      weights.judge_weighted(room, weighed, weights.weighted_answer(room, weighed)),
                      fields.judge_common(room, lot, fields.common_stalls(room, lot))]
            self.assertEqual(faults, [None] * len(faults))
            log = joining.log_of(web)
            for k, paper in enumerate(joining.log_papers(web, log)):
                ahead = joining.web_behind(web, log[:k])
                self.assertIsNone(webs.judge_two_pair(ahead, *log[k], paper))

    def test_texts_are_read_again_to_the_same(self):
        chance = random.Random(174)
        for room in ROOMS:
            told, spots = stalls.answer(room)
            web = webs.contrary(webs.web_of(room, some_of(chance, room, 8)))
            log = joining.log_of(web)
            weighed = weights.even_weights(spots, chance.randrange(9))
            way = ways.first_way(room, told[0], stalls.dealt(room, told, room)[0][-1])
            self.assertEqual([texts.read_lot(texts.lot_text(room)), texts.read_plan(texts.plan_text(room, told, spots)),
                              texts.read_cells(texts.cells_text(spots)), texts.read_joins(texts.joins_text(log)),
                              texts.read_weights(texts.weights_text(weighed)), texts.read_way(way)],
                             [room, (room, told, spots), spots, log, weighed, way])

    def test_turned_mirrored_moved_and_finer_rooms_need_as_many(self):
        many = set()
        for room in ROOMS[::2]:
            number = number_of(room)
            for t in range(8):
                other = rooms.shifted(rooms.posed(room, t), 5 - t, t * t)
                self.assertEqual(number_of(other), number)
            self.assertEqual([number_of(other) for _, other in surveys.like_rooms(room)], [number] * 3)
            for k in (2, 3):
                if len(room) * k * k <= 60:
                    self.assertEqual(number_of(rooms.finer(room, k)), number)
                    many.add((k, number))
        self.assertTrue({(2, 1), (2, 2), (3, 1)} <= many, many)

    def test_boards_of_the_stalls_of_an_answer_are_served(self):
        for room in ROOMS:
            board = kept.new_board(room)
            for k, stall in enumerate(stalls.answer(room)[0]):
                self.assertIs(kept.all_served(board), False)
                self.assertEqual(kept.how_many_further(board), number_of(room) - k)
                board = kept.done(board, ("set", stall))
            self.assertEqual([kept.all_served(board), kept.how_many_further(board), kept.idle(board)], [True, 0, ()])
            told = house.House(room)
            self.assertEqual([told.serve(), told.served(), told.thin()], [number_of(room), True, 0])

    def test_logs_written_lead_to_the_same_house(self):
        chance = random.Random(175)
        for room in ROOMS[::3]:
            one = house.House(room)
            for _ in range(8):
                deed = drawn_deed(chance, room, one.deeds())
                if is_deed(room, one.deeds(), *deed):
                    one.do(deed)
            other, talk = house.House(room), desk.Desk(room)
            for deed in deeds.read_log(deeds.log_text(one.deeds())):
                other.do(deed)
                talk.say(deeds.deed_text(deed))
            self.assertEqual([other.board(), talk.house().board()], [one.board()] * 2)
            self.assertEqual(talk.say("log"), deeds.log_text(one.deeds()) or "nothing")


if __name__ == "__main__":
    unittest.main()
