"""Part 10: where stalls may stand."""

import random
import unittest

from nodetour import choices, stalls
from tests import reckon, tries
from tests.drawn import drawn_rooms, small_rooms, some_of

SNAKE = ((0, 0), (0, 2), (0, 3), (0, 4), (1, 0), (1, 2), (1, 4), (2, 0), (2, 1), (2, 2), (2, 4))
TWO, THREE = ((0, 2), (2, 0)), ((0, 0), (1, 2), (2, 4))
ONE = ((7, -7),)
BLOCK = tuple((x, y) for x in range(3) for y in range(3))
# A crossing with four arms, each of which turns to the left at its end.
CROSS = tuple(sorted([(x, 0) for x in range(-2, 3)] + [(0, y) for y in (-2, -1, 1, 2)]
                     + [(2, 1), (-1, 2), (-2, -1), (1, -2)]))
# In these two three stalls are needed.
TWISTS = (((0, 0), (0, 1), (0, 3), (0, 4), (0, 5), (1, 1), (1, 2), (1, 3), (1, 5), (2, 0), (2, 1), (3, 0), (4, 0),
           (4, 1), (4, 2)),
          ((0, 0), (0, 1), (0, 2), (0, 4), (0, 5), (1, 0), (1, 2), (1, 3), (1, 4), (2, 2), (2, 4), (2, 5), (3, 5),
           (4, 5), (5, 4), (5, 5)))
# A row with a tooth on each second cell: without the row each tooth wants a stall of its own.
TEETH = tuple(sorted([(x, 0) for x in range(9)] + [(x, 1) for x in range(0, 9, 2)]))
SMALL = small_rooms(3, 3)[::4] + drawn_rooms(40, 12) + drawn_rooms(30, 16) + TWISTS + (SNAKE, ONE, BLOCK, CROSS, TEETH)
LARGE = drawn_rooms(40, 30) + drawn_rooms(40, 22) + TWISTS + (SNAKE, ONE, BLOCK, CROSS, TEETH)


def lots_of(chance, room):
    """Return some lots of spots of a room, not (): all of it, one spot, and some between."""
    return [room] + [some_of(chance, room, many) for many in (1, 3, 5, 7)]


def some_shut(chance, room):
    """Return some lots of cells to be shut: any ones, and those that serve the most."""
    ranked = sorted(room, key=lambda cell: (-len(reckon.served(room, cell)), cell))
    return [some_of(chance, room, len(room) * share // 7) for share in (1, 3, 5)] + [
        tuple(sorted(ranked[:len(room) * share // 7])) for share in (2, 4, 5)]


def some_stalls(chance, room, lot):
    """Return an ascending tuple of unlike stalls that serve a lot, mostly more than needed."""
    told = []
    while not reckon.serve(room, told, lot) or chance.randrange(3) == 0 and len(told) < len(room):
        told.append(chance.choice([cell for cell in room if cell not in told]))
    return tuple(sorted(told))


class OneStall(unittest.TestCase):
    def test_by_trying(self):
        chance = random.Random(101)
        spare, fewer, kept = 0, 0, 0
        for room in LARGE:
            for lot in lots_of(chance, room):
                told = some_stalls(chance, room, lot)
                for k in range(len(told)):
                    others = told[:k] + told[k + 1:]
                    self.assertEqual(choices.sole_spots(room, lot, told, k), tries.sole(room, lot, told, k))
                    places = tuple(cell for cell in room if reckon.serve(room, others + (cell,), lot))
                    self.assertEqual(choices.places_for(room, lot, told, k), places)
                    for cell in room:
                        put = tuple(sorted(set(others + (cell,)))) if cell in places else None
                        self.assertEqual(choices.put_at(room, lot, told, k, cell), put)
                        fewer += put is not None and len(put) < len(told)
                        kept += put == told
                numbers = tuple(k for k in range(len(told)) if reckon.serve(room, told[:k] + told[k + 1:], lot))
                self.assertEqual(choices.spare_stalls(room, lot, told), numbers)
                spare += len(numbers)
        self.assertTrue(spare > 50 and fewer > 50 and kept > 50)

    def test_sole_spots_of_stalls_more_than_needed(self):
        three = ((0, 2), (2, 0), (2, 1))
        self.assertEqual([choices.sole_spots(SNAKE, SNAKE, three, k) for k in range(3)], [((1, 4), (2, 4)), (), ()])
        self.assertEqual(choices.sole_spots(SNAKE, SNAKE, TWO, 1), ((0, 0), (1, 0)))
        # The stall number 0 alone serves (1, 4), but that is no spot of this lot.
        self.assertEqual(choices.sole_spots(SNAKE, ((2, 4),), TWO, 0), ((2, 4),))
        self.assertEqual(choices.sole_spots(SNAKE, ((2, 2),), TWO, 0), ())

    def test_a_stall_that_is_none_s_sole_server_can_stand_anywhere(self):
        three = ((0, 2), (2, 0), (2, 1))
        self.assertEqual(choices.places_for(SNAKE, SNAKE, three, 1), SNAKE)
        self.assertEqual(choices.put_at(SNAKE, SNAKE, three, 1, (2, 4)), ((0, 2), (2, 1), (2, 4)))
        self.assertEqual([choices.spare_stalls(SNAKE, SNAKE, three), choices.spare_stalls(SNAKE, SNAKE, SNAKE)],
                         [(1, 2), tuple(range(11))])

    def test_a_cell_at_which_another_stall_stands(self):
        three = ((0, 2), (2, 0), (2, 1))
        self.assertEqual(choices.put_at(SNAKE, SNAKE, three, 2, (2, 0)), TWO)
        self.assertEqual(choices.put_at(SNAKE, SNAKE, three, 1, (0, 2)), ((0, 2), (2, 1)))
        self.assertEqual(choices.put_at(SNAKE, SNAKE, three, 0, (2, 0)), None)
        # Its own place is one for it, too.
        self.assertEqual(choices.put_at(SNAKE, SNAKE, TWO, 1, (2, 0)), TWO)

    def test_the_places_of_a_sole_server_and_those_of_other_stalls(self):
        both = ((0, 0), (0, 2))
        self.assertEqual(choices.places_for(SNAKE, ((2, 2),), both, 0), SNAKE)
        self.assertEqual(choices.places_for(SNAKE, ((1, 4),), ((0, 0), (2, 4)), 1),
                         ((0, 2), (0, 3), (0, 4), (1, 4), (2, 4)))
        for k in (0, 1):
            self.assertIn(TWO[k], choices.places_for(SNAKE, SNAKE, TWO, k))
        self.assertIn((2, 0), choices.places_for(SNAKE, ((0, 0),), ((0, 0), (2, 0)), 0))

    def test_stalls_outside_of_the_lot_and_a_lot_of_one_spot(self):
        self.assertEqual(choices.sole_spots(SNAKE, ((1, 4),), ((0, 2),), 0), ((1, 4),))
        self.assertEqual(choices.places_for(SNAKE, ((1, 4),), ((0, 2),), 0),
                         ((0, 2), (0, 3), (0, 4), (1, 4), (2, 4)))
        self.assertEqual(choices.put_at(SNAKE, ((1, 4),), ((0, 2),), 0, (0, 0)), None)
        self.assertEqual([choices.spare_stalls(ONE, ONE, ONE), choices.put_at(ONE, ONE, ONE, 0, ONE[0])], [(), ONE])


class Spots(unittest.TestCase):
    def test_needed_and_possible_spots_by_trying(self):
        chance = random.Random(102)
        some, kinds = 0, set()
        for room in SMALL + LARGE[::2]:
            for lot in lots_of(chance, room):
                many = reckon.most_apart(room, lot)
                greatest = tries.greatest_lots_apart(room, lot)
                needed = choices.needed_spots(room, lot)
                self.assertEqual(needed, tries.in_all(greatest))
                self.assertEqual(choices.possible_spots(room, lot), tries.in_some(greatest))
                for spot in lot:
                    rest = reckon.most_apart(room, tuple(other for other in lot if other != spot))
                    self.assertEqual(rest, many - (spot in needed))
                some += 0 < len(needed) < len(lot)
                kinds.add(many)
        self.assertTrue(some > 15 and {1, 2, 3} <= kinds, (some, kinds))

    def test_edges(self):
        for spot in SNAKE:
            self.assertEqual([choices.needed_spots(SNAKE, (spot,)), choices.possible_spots(SNAKE, (spot,))],
                             [(spot,), (spot,)])
        self.assertEqual([choices.needed_spots(BLOCK, BLOCK), choices.possible_spots(BLOCK, BLOCK)], [(), BLOCK])
        self.assertEqual([choices.needed_spots(SNAKE, THREE), choices.possible_spots(SNAKE, THREE)],
                         [((0, 0), (2, 4)), ((0, 0), (2, 4))])
        self.assertEqual([choices.needed_spots(SNAKE, ()), choices.possible_spots(SNAKE, ())], [(), ()])


class Places(unittest.TestCase):
    def test_answers_by_trying(self):
        chance = random.Random(103)
        numbers = set()
        for room in SMALL:
            for lot in lots_of(chance, room):
                found = tries.lots_that_serve(room, lot, room)
                self.assertEqual(choices.answers(room, lot), tuple(found))
                self.assertEqual(choices.good_places(room, lot), tries.in_some(found))
                self.assertEqual(choices.sure_places(room, lot), tries.in_all(found))
                self.check_answers_with(room, lot, tries.in_some(found), len(found[0]))
                numbers.add(len(found[0]))
        self.assertTrue({1, 2, 3} <= numbers)

    def check_answers_with(self, room, lot, good, many):
        for cell in room:
            told = choices.answer_with(room, lot, cell)
            if cell not in good:
                self.assertIsNone(told)
            else:
                self.assertIsNone(stalls.judge_stalls(room, lot, told))
                self.assertTrue(len(told) == many and cell in told)

    def test_good_places_of_larger_rooms(self):
        chance = random.Random(104)
        for room in LARGE[::3]:
            for lot in (room, some_of(chance, room, 9)):
                many = stalls.fewest(room, lot)
                good = tuple(cell for cell in room
                             if stalls.fewest(room, tuple(spot for spot in lot
                                                          if spot not in reckon.served(room, cell))) == many - 1)
                self.assertEqual(choices.good_places(room, lot), good)
                self.check_answers_with(room, lot, good, many)

    def test_edges(self):
        self.assertEqual([choices.good_places(ONE, ONE), choices.answer_with(ONE, ONE, ONE[0]),
                          choices.answers(ONE, ONE), choices.sure_places(ONE, ONE)], [ONE, ONE, (ONE,), ONE])
        self.assertEqual(choices.answers(BLOCK, BLOCK), tuple((cell,) for cell in BLOCK))
        self.assertEqual([choices.sure_places(BLOCK, BLOCK), choices.good_places(BLOCK, BLOCK)], [(), BLOCK])
        # For one spot all cells that serve it are good, and no others.
        self.assertEqual(choices.answers(SNAKE, ((1, 4),)),
                         tuple((cell,) for cell in ((0, 2), (0, 3), (0, 4), (1, 4), (2, 4))))
        self.assertEqual(choices.answer_with(SNAKE, ((1, 4),), (2, 2)), None)
        self.assertEqual([choices.good_places(SNAKE, ()), choices.answers(SNAKE, ()), choices.sure_places(SNAKE, ()),
                          choices.answer_with(SNAKE, (), (0, 0))], [(), ((),), (), None])
        # All four arms are served from the middle alone.
        self.assertEqual([choices.answers(CROSS, CROSS), choices.sure_places(CROSS, CROSS)],
                         [(((0, 0),),), ((0, 0),)])


class ShutPlaces(unittest.TestCase):
    def test_by_trying(self):
        chance = random.Random(105)
        kinds = set()
        for room in SMALL:
            for lot in lots_of(chance, room)[::2]:
                many = stalls.fewest(room, lot)
                all_answers = choices.answers(room, lot)
                for shut in some_shut(chance, room):
                    found = tries.lots_that_serve(room, lot, [cell for cell in room if cell not in shut])
                    told = choices.fewest_but(room, lot, shut)
                    self.assertEqual(choices.stalls_but(room, lot, shut), found and found[0])
                    self.assertEqual(told, None if found is None else len(found[0]))
                    # Just as few as without shut places are enough exactly if some answer has none of them.
                    self.assertIs(told == many, any(not set(one) & set(shut) for one in all_answers))
                    kinds.add(None if told is None else told - many)
        self.assertTrue({None, 0, 1, 2} <= kinds, kinds)

    def test_no_fewer_if_more_is_shut(self):
        chance = random.Random(106)
        for room in SMALL[::2]:
            lot = some_of(chance, room, 8)
            shut, least = (), stalls.fewest(room, lot)
            for cell in chance.sample(room, len(room)):
                told = choices.fewest_but(room, lot, shut)
                self.assertTrue(told is None or least is not None and told >= least)
                shut, least = tuple(sorted(shut + (cell,))), told

    def test_sure_places_are_those_that_cannot_be_shut(self):
        sure_ones = 0
        for room in SMALL:
            many = stalls.fewest(room, room)
            sure = tuple(cell for cell in room if choices.fewest_but(room, room, (cell,)) != many)
            self.assertEqual(choices.sure_places(room, room), sure)
            sure_ones += len(sure)
        self.assertGreater(sure_ones, 5)

    def test_edges(self):
        for room in (ONE, SNAKE, BLOCK, CROSS):
            self.assertEqual(choices.fewest_but(room, room, ()), stalls.fewest(room, room))
            self.assertEqual(choices.stalls_but(room, room, ()), choices.answers(room, room)[0])
            self.assertEqual([choices.fewest_but(room, room, room), choices.stalls_but(room, room, room)], [None] * 2)
        # Spots at shut cells want to be served all the same.
        self.assertEqual(choices.stalls_but(SNAKE, ((0, 2), (0, 3)), ((0, 2), (0, 3))), ((0, 4),))
        self.assertEqual([choices.fewest_but(SNAKE, (), SNAKE), choices.stalls_but(SNAKE, (), SNAKE)], [0, ()])
        self.assertEqual(choices.fewest_but(CROSS, CROSS, ((0, 0),)), 2)
        tips = tuple((x, 1) for x in range(0, 9, 2))
        row = tuple(cell for cell in TEETH if cell not in tips)
        self.assertEqual([stalls.fewest(TEETH, TEETH), choices.fewest_but(TEETH, TEETH, row)], [1, 5])
        self.assertEqual(choices.stalls_but(TEETH, TEETH, row[:-1]), ((8, 0),))
        self.assertEqual(choices.stalls_but(TEETH, TEETH, row), tips)


class Few(unittest.TestCase):
    def test_most_served_by_trying(self):
        chance = random.Random(107)
        for room in SMALL[::2]:
            for lot in lots_of(chance, room)[::2]:
                many = stalls.fewest(room, lot)
                for k in range(4 if len(room) > 12 else 5):
                    told = choices.most_served(room, lot, k)
                    self.assertEqual(told, tries.most_served(room, lot, k))
                    self.assertIs(told[0] == len(lot), k >= many)
                    self.assertEqual(len(choices.served_of(room, lot, told[1])), told[0])

    def test_edges_of_most_served(self):
        for room in (ONE, SNAKE, CROSS):
            self.assertEqual(choices.most_served(room, room, 0), (0, ()))
            for k in range(stalls.fewest(room, room), 5):
                self.assertEqual(choices.most_served(room, room, k), (len(room), choices.answers(room, room)[0]))
        self.assertEqual(choices.most_served(SNAKE, ((1, 4),), 4), (1, ((0, 2),)))
        self.assertEqual([choices.most_served(SNAKE, SNAKE, k) for k in (1, 2)], [(9, ((0, 2),)),
                                                                                  (11, ((0, 0), (0, 2)))])

    def test_served_of(self):
        chance = random.Random(108)
        for room in LARGE:
            for lot in lots_of(chance, room):
                told = some_of(chance, room, chance.randrange(4))
                self.assertEqual(choices.served_of(room, lot, told), tries.served_together(room, lot, told))
        self.assertEqual([choices.served_of(SNAKE, SNAKE, ()), choices.served_of(SNAKE, THREE, SNAKE)], [(), THREE])

    def test_greed_step_by_step(self):
        chance = random.Random(109)
        worse = 0
        for room in LARGE + drawn_rooms(150, 30):
            for lot in lots_of(chance, room):
                told = choices.by_greed(room, lot)
                left = set(lot)
                for stall in told:
                    gains = [len(left & reckon.served(room, cell)) for cell in room]
                    self.assertEqual(stall, room[gains.index(max(gains))])
                    self.assertGreater(max(gains), 0)
                    left -= reckon.served(room, stall)
                self.assertFalse(left)
                many = stalls.fewest(room, lot)
                self.assertGreaterEqual(len(told), many)
                worse += len(told) > many
        self.assertGreater(worse, 0)
        self.assertEqual([choices.by_greed(ONE, ONE), choices.by_greed(SNAKE, ((2, 4),)),
                          choices.by_greed(SNAKE, SNAKE)], [ONE, ((0, 2),), ((0, 2), (0, 0))])


class Again(unittest.TestCase):
    def test_equal_calls_return_equal_answers(self):
        for name, more in (("places_for", (TWO, 0)), ("put_at", (TWO, 0, (2, 4))), ("possible_spots", ()),
                           ("answer_with", ((2, 1),)), ("answers", ()), ("stalls_but", (TWO,)), ("most_served", (2,))):
            told = getattr(choices, name)
            # The same cells once more, as tuples of their own.
            room, lot = tuple((x, y) for x, y in SNAKE), tuple((x, y) for x, y in THREE)
            self.assertEqual(told(SNAKE, THREE, *more), told(room, lot, *more), name)
            self.assertEqual((room, lot), (SNAKE, THREE))


if __name__ == "__main__":
    unittest.main()
