"""Part 5: webs of spots, bare ways, two-pairs."""

import copy
import itertools
import random
import unittest

from nodetour import webs
from nodetour.rooms import is_cell, is_lot
from tests import reckon
from tests.drawn import all_webs, altered, drawn_rooms, drawn_web, drawn_webs, of_other_kinds, small_rooms, some_of
from tests.support import some_values

A, B, C, D, E, F = ((x, 0) for x in range(6))
NONE = ((), ())
LINE = ((A, B, C, D), ((A, B), (B, C), (C, D)))
TRIANGLE = ((A, B, C), ((A, B), (A, C), (B, C)))
FOUR = ((A, B, C, D), ((A, B), (A, D), (B, C), (C, D)))
FIVE = ((A, B, C, D, E), ((A, B), (A, E), (B, C), (C, D), (D, E)))
SIX = ((A, B, C, D, E, F), ((A, B), (A, F), (B, C), (C, D), (D, E), (E, F)))
LOOSE = ((A, B, C), ())
FULL = ((A, B, C, D), ((A, B), (A, C), (A, D), (B, C), (B, D), (C, D)))
TOLD = (NONE, ((A,), ()), LINE, TRIANGLE, FOUR, FIVE, SIX, LOOSE, FULL)
SMALL = tuple(web for size in range(5) for web in all_webs(size))
WEBS = SMALL + all_webs(5)[::3] + drawn_webs(120, 9) + TOLD


def pairs(web):
    """Return the list of the pairs of unlike members, both ways round."""
    return list(itertools.permutations(web[0], 2))


def is_web_plainly(value):
    if type(value) is not tuple or len(value) != 2 or type(value[1]) is not tuple or not is_lot(value[0]):
        return False
    for tie in value[1]:
        if type(tie) is not tuple or len(tie) != 2 or not all(is_cell(member) for member in tie):
            return False
        if not set(tie) <= set(value[0]) or not tie[0] < tie[1]:
            return False
    return list(value[1]) == sorted(set(value[1]))


class Webs(unittest.TestCase):
    def test_is_web(self):
        for web in WEBS:
            self.assertIs(webs.is_web(web), True)
        for value in (None, (), ((),), ((), (), ()), ((A,), ((A, A),)), ((A, B), ((B, A),)), ((A, B), ((A, B), (A, B))),
                      ((A,), ((A, B),)), ((B, A), ()), ((A, A), ()), ((A, B, C), ((B, C), (A, B))), [(A,), ()],
                      ([A], ()), ((A,), []), ((A, B), ([A, B],)), ((A, B), ((A, B, C),)), ((A, B), ((A,),)),
                      ((A, B), (A, B)), ((A, B), ((A, None),)), ((A, B), (((False, 0), (True, 0)),)), ("", ""),
                      ((A, B), ((A, [1, 0]),)), ((A, B), {(A, B): True}), ({}, ()), ((1, 2), ())):
            self.assertIs(webs.is_web(value), False, value)

    def test_is_web_of_any_value(self):
        chance = random.Random(51)
        for value in some_values():
            before = copy.deepcopy(value)
            self.assertIs(webs.is_web(value), is_web_plainly(value))
            self.assertEqual(value, before)
        for web in WEBS[-100:]:
            for value in of_other_kinds(web):
                self.assertIs(webs.is_web(value), False)
            for _ in range(5):
                value = altered(chance, web)
                self.assertIs(webs.is_web(value), is_web_plainly(value), value)

    def test_web_of(self):
        chance = random.Random(52)
        for room in small_rooms(3, 3)[::5] + drawn_rooms(50, 25):
            for lot in ((), room, some_of(chance, room, 6), room[:1]):
                self.assertEqual(webs.web_of(room, lot), reckon.web_of_spots(room, lot))
                self.assertTrue(webs.is_web(webs.web_of(room, lot)))

    def test_contrary(self):
        for web in WEBS:
            near = reckon.pair_set(web)
            members, ties = webs.contrary(web)
            self.assertEqual(members, web[0])
            self.assertEqual(ties, tuple(pair for pair in itertools.combinations(members, 2) if pair not in near))
            self.assertEqual(webs.contrary((members, ties)), web)
        self.assertEqual([webs.contrary(NONE), webs.contrary(LOOSE), webs.contrary(TRIANGLE)], [NONE, TRIANGLE, LOOSE])

    def test_neighbours_and_are_next(self):
        for web in WEBS:
            near = reckon.pair_set(web)
            for one in web[0]:
                told = tuple(other for other in web[0] if (one, other) in near)
                self.assertEqual(webs.neighbours(web, one), told)
                for other in web[0]:
                    self.assertIs(webs.are_next(web, one, other), other in told)

    def test_web_part(self):
        chance = random.Random(53)
        for web in WEBS:
            for many in (0, 1, 3, len(web[0])):
                some = some_of(chance, web[0], many)
                told = (some, tuple(tie for tie in web[1] if set(tie) <= set(some)))
                self.assertEqual(webs.web_part(web, some), told)


class Bare(unittest.TestCase):
    def test_all_tuples_of_small_webs(self):
        for web in SMALL:
            for many in range(5):
                for told in itertools.product(web[0], repeat=many):
                    self.assertIs(webs.is_bare_way(web, told), reckon.is_bare(web, told, False))
                    self.assertIs(webs.is_bare_round(web, told), reckon.is_bare(web, told, True))

    def test_edges(self):
        self.assertEqual([webs.is_bare_way(LINE, ()), webs.is_bare_way(LINE, (C,)), webs.is_bare_way(LINE, (B, A)),
                          webs.is_bare_way(LINE, (A, B, A)), webs.is_bare_way(LINE, (A, A)),
                          webs.is_bare_way(TRIANGLE, (A, B, C)), webs.is_bare_way(LINE, (A, B, D))],
                         [False, True, True, False, False, False, False])
        self.assertEqual([webs.is_bare_round(TRIANGLE, (C, A, B)), webs.is_bare_round(FOUR, (D, A, B, C)),
                          webs.is_bare_round(FIVE, (E, D, C, B, A)), webs.is_bare_round(FULL, (A, B, C, D)),
                          webs.is_bare_round(FULL, (D, A, B)), webs.is_bare_round(LINE, (A, B)),
                          webs.is_bare_round(FOUR, (A, C, B, D)), webs.is_bare_round(FOUR, (A, B, C)),
                          webs.is_bare_round(FOUR, ()), webs.is_bare_round(SIX, (A, B, C, D, E))],
                         [True, True, True, False, True, False, False, False, False, False])

    def test_any_value(self):
        others = [(A, E), ((9, 9),), (A, (9, 9)), [A], {A: True}, "", ("A",), (A, None), (A, [1, 0]), ((0, 0, 0),),
                  (A, (True, 0)), ((False, 0),), 0, 1, (0, 0), (0,)]
        for value in others + some_values():
            before = copy.deepcopy(value)
            good = isinstance(value, tuple) and value != () and all(is_cell(member) for member in value)
            told = good and reckon.is_bare(LINE, value, False)
            self.assertIs(webs.is_bare_way(LINE, value), told, value)
            self.assertIs(webs.is_bare_round(FIVE, value), good and reckon.is_bare(FIVE, value, True), value)
            self.assertEqual(value, before)

    def test_lists_for_tuples_and_true_for_1(self):
        for value in of_other_kinds((A, B, C)):
            self.assertIs(webs.is_bare_way(LINE, value), False)
            self.assertIs(webs.is_bare_round(TRIANGLE, value), False)

    def test_long_ways(self):
        found = 0
        for web in SMALL + all_webs(5)[::5] + TOLD + drawn_webs(120, 9):
            for a, b in pairs(web):
                told = reckon.ways_by_lots(web, a, b, 4)
                self.assertEqual(webs.long_way(web, a, b), told[0] if told else None)
                found += len(told) > 1
        self.assertGreater(found, 100)

    def test_the_lots_tell_what_all_tuples_do(self):
        for web in all_webs(5)[::40] + drawn_webs(40, 6):
            told = reckon.bare_ways(web, 4)
            for a, b in pairs(web):
                self.assertEqual(reckon.ways_by_lots(web, a, b, 4),
                                 [way for way in told if (way[0], way[-1]) == (a, b)])
            rounds = reckon.bare_rounds(web, 3)
            self.assertEqual(webs.long_round(web), min([told for told in rounds if len(told) >= 5], default=None))
            self.assertTrue(set(reckon.rounds_by_lots(web, 3)) <= set(rounds))
            self.assertEqual(bool(rounds), bool(reckon.rounds_by_lots(web, 3)))

    def test_long_rounds(self):
        found = 0
        for web in WEBS + drawn_webs(60, 12):
            told = reckon.rounds_by_lots(web, 5)
            self.assertEqual(webs.long_round(web), told[0] if told else None)
            found += len(told) > 1
        self.assertGreater(found, 10)
        self.assertEqual([webs.long_round(NONE), webs.long_round(TRIANGLE), webs.long_round(FOUR),
                          webs.long_round(FIVE),
                          webs.long_round(SIX)], [None, None, None, (A, B, C, D, E), (A, B, C, D, E, F)])

    def test_the_first_of_several_long_rounds(self):
        # Two rounds of five with A and B in both; that over C is first.
        G, H = (6, 0), (7, 0)
        members = (A, B, C, D, E, F, G, H)
        ties = tuple(sorted([(A, B), (B, F), (F, G), (G, H), (A, H), (B, C), (C, D), (D, E), (A, E)]))
        self.assertEqual(webs.long_round((members, ties)), (A, B, C, D, E))
        self.assertEqual(webs.long_way((members, ties), A, D), (A, B, C, D))
        self.assertEqual(webs.long_way((members, ties), B, H), (B, F, G, H))


class Plain(unittest.TestCase):
    def test_is_plain(self):
        both = {True: 0, False: 0}
        for web in WEBS + drawn_webs(40, 10):
            told = reckon.is_plain(web)
            self.assertIs(webs.is_plain(web), told)
            both[told] += 1
        self.assertGreater(min(both.values()), 15)
        six = webs.contrary(SIX)
        self.assertEqual([webs.is_plain(web) for web in (NONE, FOUR, FIVE, SIX, six)],
                         [True, True, False, False, False])

    def test_webs_of_rooms_and_their_contraries_and_parts_are_plain(self):
        chance = random.Random(54)
        for room in drawn_rooms(200, 40):
            web = webs.web_of(room, some_of(chance, room, 14))
            self.assertTrue(webs.is_plain(web))
            self.assertTrue(webs.is_plain(webs.contrary(web)))
            self.assertTrue(webs.is_plain(webs.web_part(web, some_of(chance, web[0], 9))))


class TwoPairs(unittest.TestCase):
    def test_common_ones(self):
        for web in WEBS:
            near = reckon.pair_set(web)
            for a, b in pairs(web):
                told = tuple(member for member in web[0] if (a, member) in near and (b, member) in near)
                self.assertEqual(webs.common_ones(web, a, b), told)

    def test_pieces_without(self):
        chance = random.Random(55)
        for web in WEBS:
            for gone in ((), web[0], some_of(chance, web[0], 2), some_of(chance, web[0], 1)):
                self.assertEqual(webs.pieces_without(web, gone), reckon.parts_without(web, gone))
        self.assertEqual([webs.pieces_without(NONE, ()), webs.pieces_without(LOOSE, (B,))], [(), ((A,), (C,))])

    def test_two_pairs(self):
        both = {True: 0, False: 0}
        for web in SMALL + all_webs(5)[::5] + TOLD + drawn_webs(60, 7):
            told = {(a, b): reckon.are_two_pair(web, a, b) for a, b in pairs(web)}
            for a, b in pairs(web):
                self.assertIs(webs.is_two_pair(web, a, b), told[a, b])
                self.assertIs(told[a, b], not webs.are_next(web, a, b) and webs.long_way(web, a, b) is None)
                both[told[a, b]] += 1
            self.assertEqual(webs.first_two_pair(web), min([pair for pair in told if told[pair]], default=None))
        self.assertGreater(min(both.values()), 100)

    def test_first_two_pair_edges(self):
        self.assertEqual([webs.first_two_pair(web) for web in (NONE, FULL, FIVE, LOOSE, FOUR, TRIANGLE)],
                         [None, None, None, (A, B), (A, C), None])

    def test_plain_webs_have_one_if_not_all_are_next_to_all(self):
        chance = random.Random(56)
        told = [web for web in WEBS if webs.is_plain(web)]
        for room in drawn_rooms(60, 40):
            web = webs.web_of(room, some_of(chance, room, 20))
            told += [web, webs.contrary(web)]
        for web in told:
            self.assertIs(webs.first_two_pair(web) is None, webs.all_next(web))

    def test_papers(self):
        for web in WEBS:
            for a, b in pairs(web):
                if webs.is_two_pair(web, a, b):
                    commons = webs.common_ones(web, a, b)
                    piece = [part for part in reckon.parts_without(web, commons) if a in part][0]
                    self.assertEqual(webs.two_pair_paper(web, a, b), (commons, piece))
                    self.assertIsNone(webs.judge_two_pair(web, a, b, (commons, piece)))
        self.assertEqual(webs.two_pair_paper(LINE, C, A), ((B,), (C, D)))

    def test_the_sequence_of_the_faults(self):
        told = [(A, C, ((B,), (A,)), None), (C, A, ((B,), (C, D)), None), (C, A, ((B,), (C,)), ("out", D)),
                (A, C, ((B,), (A, D)), ("out", C)), (A, C, ((B,), (A, C)), ("ends",)), (A, C, ((B,), (D,)), ("ends",)),
                (A, C, ((B,), ()), ("ends",)), (A, C, ((B,), (A, B)), ("ends",)), (A, C, ((A,), (D,)), ("commons",)),
                (A, C, ((), (B, D)), ("commons",)), (A, B, ((C,), ()), ("next",)), (B, A, ((), (A,)), ("next",)),
                (A, B, ((E,), ()), ("form",)), (A, C, ((B,), (A, E)), ("form",)), (A, C, ((B,), (D, A)), ("form",)),
                (A, C, ((B,), (A,), ()), ("form",)), (A, C, [(B,), (A,)], ("form",)), (A, C, ((B,), [A]), ("form",)),
                (A, C, ((B,), (A, A)), ("form",)), (A, C, (B, A), ("form",)), (A, D, ((), (A, B)), ("out", C))]
        for a, b, value, fault in told:
            self.assertEqual(webs.judge_two_pair(LINE, a, b, value), fault, (a, b, value))
        # More than the piece of a: a piece of its own besides, but not that of b.
        web = ((A, B, C, D, E), ((A, B), (B, C), (D, E)))
        self.assertIsNone(webs.judge_two_pair(web, A, C, ((B,), (A, D, E))))
        self.assertEqual(webs.judge_two_pair(web, A, C, ((B,), (A, D))), ("out", E))
        # The least one that is out.
        web = ((A, B, C, D, E), ((C, D), (B, C), (C, E)))
        self.assertEqual(webs.judge_two_pair(web, C, A, ((), (C, E))), ("out", B))

    def test_what_is_judged_right_is_a_two_pair(self):
        for web in SMALL:
            for a, b in pairs(web):
                for piece in itertools.chain(*[itertools.combinations(web[0], many) for many in range(5)]):
                    value = (webs.common_ones(web, a, b), piece)
                    fault = webs.judge_two_pair(web, a, b, value)
                    self.assertEqual(fault, told_fault(web, a, b, value))
                    if fault is None:
                        self.assertTrue(reckon.are_two_pair(web, a, b))

    def test_changed_papers_and_any_value(self):
        chance = random.Random(57)
        for web in WEBS[-100:]:
            for a, b in pairs(web)[:12]:
                value = (webs.common_ones(web, a, b), some_of(chance, web[0], 4))
                for _ in range(3):
                    self.assertEqual(webs.judge_two_pair(web, a, b, value), told_fault(web, a, b, value))
                    value = altered(chance, value)
        for value in some_values() + [((), ()), ((), []), ([], ()), ((A,), (A,)), (LINE, LINE), ((True, 0), ())]:
            before = copy.deepcopy(value)
            self.assertEqual(webs.judge_two_pair(LINE, A, C, value), told_fault(LINE, A, C, value))
            self.assertEqual(value, before)
        for value in of_other_kinds(((B,), (A,))):
            self.assertEqual(webs.judge_two_pair(LINE, A, C, value), ("form",))


def told_fault(web, a, b, value):
    """Return the first fault of a value as a paper of a and b, point by point."""
    if type(value) is not tuple or len(value) != 2 or not all(is_lot(part) and set(part) <= set(web[0])
                                                              for part in value):
        return ("form",)
    near = reckon.near_sets(web)
    if b in near[a]:
        return ("next",)
    commons, piece = map(set, value)
    if commons != near[a] & near[b]:
        return ("commons",)
    if a not in piece or b in piece or piece & commons:
        return ("ends",)
    for member in web[0]:
        if near[member] & piece and member not in piece | commons:
            return ("out", member)
    return None


class LikeOnes(unittest.TestCase):
    def test_like_ones_alone_all_next(self):
        for web in WEBS:
            near = reckon.near_sets(web)
            lots = []
            for many in range(2, len(web[0]) + 1):
                for lot in itertools.combinations(web[0], many):
                    if all(near[a] - {a, b} == near[b] - {a, b} for a, b in itertools.combinations(lot, 2)):
                        lots.append(lot)
            told = tuple(sorted(lot for lot in lots if not any(set(lot) < set(other) for other in lots)))
            self.assertEqual(webs.like_ones(web), told)
            self.assertEqual(webs.alone(web), tuple(member for member in web[0] if not near[member]))
            self.assertIs(webs.all_next(web), reckon.is_knot(web, web[0]))

    def test_edges(self):
        self.assertEqual([webs.like_ones(web) for web in (NONE, LOOSE, TRIANGLE, FOUR, FIVE)],
                         [(), ((A, B, C),), ((A, B, C),), ((A, C), (B, D)), ()])
        self.assertEqual([webs.alone(NONE), webs.alone(LOOSE), webs.alone(LINE)], [(), (A, B, C), ()])
        self.assertEqual([webs.all_next(NONE), webs.all_next(((A,), ())), webs.all_next(LOOSE), webs.all_next(FULL)],
                         [True, True, False, True])

    def test_like_ones_not_next_are_a_two_pair(self):
        for web in WEBS:
            for lot in webs.like_ones(web):
                for a, b in itertools.combinations(lot, 2):
                    if not webs.are_next(web, a, b):
                        self.assertTrue(webs.is_two_pair(web, a, b))


class LargeWebs(unittest.TestCase):
    def test_sixty_members(self):
        chance = random.Random(58)
        for share in (0, 3, 10, 50, 90, 100):
            web = drawn_web(chance, 60, share)
            self.assertTrue(webs.is_web(web))
            self.assertEqual(webs.contrary(webs.contrary(web)), web)
            pair = webs.first_two_pair(web)
            if pair is not None:
                self.assertIsNone(webs.judge_two_pair(web, *pair, webs.two_pair_paper(web, *pair)))
            self.assertEqual(webs.pieces_without(web, ()), reckon.parts_without(web, ()))
            self.assertEqual(webs.alone(web), tuple(m for m in web[0] if not webs.neighbours(web, m)))
            self.assertEqual(webs.like_ones(web), webs.like_ones(webs.contrary(web)))

    def test_fourteen_members(self):
        chance = random.Random(59)
        for share in (0, 15, 25, 50, 75, 85, 100):
            web = drawn_web(chance, 14, share)
            told = reckon.rounds_by_lots(web, 5)
            self.assertEqual(webs.long_round(web), told[0] if told else None)
            self.assertIs(webs.is_plain(web), reckon.is_plain(web))


if __name__ == "__main__":
    unittest.main()
