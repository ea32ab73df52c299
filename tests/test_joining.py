"""Part 6: joining two-pairs."""

import copy
import itertools
import random
import unittest

from nodetour import joining, webs
from nodetour.rooms import is_lot
from tests import reckon
from tests.drawn import all_webs, altered, drawn_rooms, drawn_web, drawn_webs, of_other_kinds, some_of
from tests.support import some_values

A, B, C, D, E = ((x, 0) for x in range(5))
NONE = ((), ())
ONE = ((A,), ())
LINE = ((A, B, C, D), ((A, B), (B, C), (C, D)))
FOUR = ((A, B, C, D), ((A, B), (A, D), (B, C), (C, D)))
FIVE = ((A, B, C, D, E), ((A, B), (A, E), (B, C), (C, D), (D, E)))
LOOSE = ((A, B, C), ())
FULL = ((A, B, C), ((A, B), (A, C), (B, C)))
TOLD = (NONE, ONE, LINE, FOUR, FIVE, LOOSE, FULL)
WEBS = tuple(web for size in range(5) for web in all_webs(size)) + all_webs(5)[::7] + drawn_webs(60, 7) + TOLD


def plain_webs():
    """Return webs of lots of drawn rooms, and their contraries, some of them with many members."""
    chance = random.Random(61)
    told = []
    for room in drawn_rooms(80, 40):
        web = webs.web_of(room, some_of(chance, room, chance.randrange(20)))
        told += [web, webs.contrary(web)]
    return told


def drawn_log(chance, web):
    """Return a log of some joinings of pairs that are not next to one another, two-pairs or not."""
    log = []
    while chance.randrange(6):
        pairs = [pair for pair in itertools.combinations(web[0], 2) if pair not in web[1]]
        if not pairs:
            break
        log.append(chance.choice(pairs))
        web = reckon.put_together(web, *log[-1])
    return tuple(log)


def webs_ahead(web, log):
    """Return the list of the webs ahead of each joining, and that behind all."""
    told = [web]
    for a, b in log:
        told.append(reckon.put_together(told[-1], a, b))
    return told


class Joined(unittest.TestCase):
    def test_joined(self):
        for web in WEBS:
            for a, b in itertools.combinations(web[0], 2):
                if (a, b) not in web[1]:
                    told = reckon.put_together(web, a, b)
                    self.assertEqual(joining.joined(web, a, b), told)
                    self.assertTrue(webs.is_web(told))
        self.assertEqual(joining.joined(FOUR, A, C), ((A, B, D), ((A, B), (A, D))))
        self.assertEqual(joining.joined(LINE, B, D), ((A, B, C), ((A, B), (B, C))))
        self.assertEqual(joining.joined(((A, B), ()), A, B), ONE)

    def test_two_pairs_of_plain_webs(self):
        for web in WEBS:
            if reckon.is_plain(web):
                knots, parts = reckon.greatest_knots(web), reckon.fewest_groups(web)
                for a, b in itertools.combinations(web[0], 2):
                    if reckon.are_two_pair(web, a, b):
                        behind = joining.joined(web, a, b)
                        self.assertTrue(reckon.is_plain(behind))
                        self.assertEqual(len(reckon.greatest_knots(behind)[0]), len(knots[0]))
                        self.assertEqual(reckon.fewest_groups(behind), parts)

    def test_web_behind_and_groups(self):
        chance = random.Random(62)
        for web in WEBS + drawn_webs(30, 12):
            log = drawn_log(chance, web)
            self.assertEqual(joining.web_behind(web, log), webs_ahead(web, log)[-1])
            parts = {member: {member} for member in web[0]}
            for a, b in log:
                parts[a] |= parts.pop(b)
            told = tuple(sorted(tuple(sorted(part)) for part in parts.values()))
            self.assertEqual(joining.groups(web, log), told)
            for part in told:
                self.assertFalse(reckon.pair_set(web) & set(itertools.combinations(part, 2)))
            behind = joining.web_behind(web, log)
            self.assertIs(joining.is_spent(web, log), reckon.is_knot(behind, behind[0]))

    def test_without_joinings(self):
        for web in TOLD:
            self.assertEqual(joining.web_behind(web, ()), web)
            self.assertEqual(joining.groups(web, ()), tuple((member,) for member in web[0]))
            self.assertIs(joining.is_spent(web, ()), webs.all_next(web))
            self.assertEqual(joining.log_papers(web, ()), ())
        self.assertEqual(joining.groups(LOOSE, ((B, C), (A, B))), ((A, B, C),))


class Logs(unittest.TestCase):
    def test_log_of(self):
        for web in WEBS:
            told, now = [], web
            while True:
                pairs = [pair for pair in itertools.combinations(now[0], 2) if reckon.are_two_pair(now, *pair)]
                if not pairs:
                    break
                told.append(pairs[0])
                now = reckon.put_together(now, *pairs[0])
            self.assertEqual(joining.log_of(web), tuple(told))
            spent = reckon.is_knot(now, now[0])
            self.assertIs(joining.is_spent(web, tuple(told)), spent)
            self.assertEqual(joining.stuck_web(web), None if spent else now)
            if reckon.is_plain(web):
                self.assertTrue(spent)

    def test_logs_of_plain_webs_are_spent(self):
        for web in plain_webs():
            log = joining.log_of(web)
            self.assertIs(joining.is_spent(web, log), True)
            self.assertIsNone(joining.judge_log(web, log))
            self.assertIsNone(joining.stuck_web(web))
            self.assertEqual(len(joining.groups(web, log)), len(joining.knot_back(web, log)))

    def test_papers(self):
        for web in list(WEBS) + plain_webs()[::5]:
            log = joining.log_of(web)
            papers = joining.log_papers(web, log)
            self.assertEqual(len(papers), len(log))
            for now, (a, b), paper in zip(webs_ahead(web, log), log, papers):
                self.assertEqual(paper, webs.two_pair_paper(now, a, b))
                self.assertIsNone(webs.judge_two_pair(now, a, b, paper))

    def test_stuck(self):
        self.assertEqual([joining.log_of(FIVE), joining.stuck_web(FIVE), joining.stuck_web(NONE)], [(), FIVE, None])
        loose = (FIVE[0] + ((9, 9),), FIVE[1])
        self.assertEqual([joining.log_of(loose), joining.stuck_web(loose)], [((A, (9, 9)),), FIVE])


def told_knot(web, log):
    """Return the knot that comes by reading a log back, by the words of the document."""
    ahead = webs_ahead(web, log)
    knot = set(reckon.greatest_knots(ahead[-1])[0])
    for (a, b), now in reversed(list(zip(log, ahead))):
        if a in knot:
            others = knot - {a}
            near = reckon.near_sets(now)
            knot = others | ({a} if others <= near[a] else {b})
    return tuple(sorted(knot))


def logs_of_two_pairs(web):
    """Return all logs, short and long, of joinings of two-pairs."""
    told = [((), web)]
    for log, now in told:
        for pair in itertools.combinations(now[0], 2):
            if reckon.are_two_pair(now, *pair):
                told.append((log + (pair,), reckon.put_together(now, *pair)))
    return [log for log, now in told]


class ReadBack(unittest.TestCase):
    def test_all_logs_of_small_webs(self):
        for web in WEBS[:76] + all_webs(5)[::150]:
            for log in logs_of_two_pairs(web)[:60]:
                knot = joining.knot_back(web, log)
                self.assertEqual(knot, told_knot(web, log))
                self.assertTrue(reckon.is_knot(web, knot))
                for part in joining.groups(web, log):
                    self.assertLessEqual(len(set(part) & set(knot)), 1)

    def test_logs_of_their_own(self):
        for web in list(WEBS) + [web for web in plain_webs() if len(web[0]) < 13]:
            log = joining.log_of(web)
            for many in (0, len(log) // 2, len(log)):
                self.assertEqual(joining.knot_back(web, log[:many]), told_knot(web, log[:many]))

    def test_edges(self):
        self.assertEqual([joining.knot_back(NONE, ()), joining.knot_back(ONE, ()), joining.knot_back(LOOSE, ()),
                          joining.knot_back(FULL, ()), joining.knot_back(FIVE, ())],
                         [(), (A,), (A,), (A, B, C), (A, B)])
        # A joined member is kept if it is next to all others, else the other one is taken.
        web = ((A, B, C), ((B, C),))
        self.assertEqual(joining.knot_back(web, ((A, B),)), (B, C))
        self.assertEqual(joining.knot_back(((A, B, C), ((A, C),)), ((A, B),)), (A, C))


def told_log_fault(web, value):
    """Return the first fault of a value as a log, but "long" without its way."""
    if type(value) is not tuple or not all(is_lot(pair) and len(pair) == 2 for pair in value):
        return ("form",)
    for k, (a, b) in enumerate(value):
        near = reckon.near_sets(web)
        if a not in near or b not in near or b in near[a]:
            return ("pair", k)
        if not reckon.are_two_pair(web, a, b):
            return ("long", k)
        web = reckon.put_together(web, a, b)
    rest = [pair for pair in itertools.combinations(web[0], 2) if pair not in web[1]]
    return ("rest", rest[0]) if rest else None


class JudgedLogs(unittest.TestCase):
    def check(self, web, value):
        fault = joining.judge_log(web, value)
        told = told_log_fault(web, value)
        if told is None or told[0] != "long":
            self.assertEqual(fault, told)
            return
        self.assertEqual((fault[:2], len(fault)), (told, 3))
        now = webs_ahead(web, value[:told[1]])[-1]
        way = fault[2]
        self.assertIs(type(way), tuple)
        self.assertTrue(reckon.is_bare(now, way, False))
        self.assertGreaterEqual(len(way), 4)
        self.assertEqual((way[0], way[-1]), value[told[1]])

    def test_drawn_logs(self):
        chance = random.Random(63)
        kinds = set()
        for web in WEBS:
            for value in (joining.log_of(web), drawn_log(chance, web), joining.log_of(web)[:-1]):
                for _ in range(3):
                    self.check(web, value)
                    kinds.add((told_log_fault(web, value) or (None,))[0])
                    value = altered(chance, value)
        self.assertEqual(kinds, {None, "form", "pair", "long", "rest"})

    def test_the_sequence_of_the_faults(self):
        told = [((), ("rest", (A, C))), (((A, C),), ("rest", (B, D))), (((B, D),), ("rest", (A, C))),
                (((A, C), (B, D)), None), (((A, C), (A, C)), ("pair", 1)), (((A, C), (C, D)), ("pair", 1)),
                (((A, B),), ("pair", 0)), (((A, E),), ("pair", 0)), (((E, (5, 5)),), ("pair", 0)),
                (((A, D), (A, B)), ("long", 0)), (((A, B), (A, D)), ("pair", 0)), (((A, C), (A, B)), ("pair", 1)),
                (((C, A),), ("form",)), (((A, A),), ("form",)), (((A, B), (D, C)), ("form",)),
                (((A, B, C),), ("form",)),
                ((A, C), ("form",)), ([(A, C), (B, D)], ("form",)), (([A, C],), ("form",)), (((A, None),), ("form",))]
        for value, fault in told:
            answer = joining.judge_log(LINE, value)
            self.assertEqual(answer[:2] if fault and fault[0] == "long" else answer, fault, value)
        self.assertIsNone(joining.judge_log(NONE, ()))
        self.assertEqual(joining.judge_log(NONE, ((A, B),)), ("pair", 0))
        self.assertIsNone(joining.judge_log(FULL, ()))
        self.assertEqual(joining.judge_log(FIVE, ()), ("rest", (A, C)))
        # A member that was put into another one is none any more, though it was one ahead.
        self.assertEqual(joining.judge_log(LOOSE, ((A, B), (B, C))), ("pair", 1))
        self.assertIsNone(joining.judge_log(LOOSE, ((B, C), (A, B))))

    def test_any_value(self):
        for value in some_values():
            before = copy.deepcopy(value)
            self.check(LINE, value)
            self.assertEqual(value, before)
        for value in of_other_kinds(((A, C), (B, D))):
            self.assertEqual(joining.judge_log(LINE, value), ("form",))


def told_split_fault(web, value):
    """Return the first fault of a value as a split, point by point."""
    if type(value) is not tuple or len(value) != 2 or type(value[0]) is not tuple:
        return ("form",)
    for lot in value[0] + (value[1],):
        if not is_lot(lot) or not set(lot) <= set(web[0]):
            return ("form",)
    parts, knot = value
    if () in parts or list(parts) != sorted(set(parts)):
        return ("form",)
    for member in web[0]:
        if sum(member in part for part in parts) != 1:
            return ("member", member)
    wrong = [pair for part in parts for pair in itertools.combinations(part, 2) if pair in web[1]]
    if wrong:
        return ("group",) + min(wrong)
    for pair in itertools.combinations(knot, 2):
        if pair not in web[1]:
            return ("knot",) + pair
    return ("many", len(parts), len(knot)) if len(parts) != len(knot) else None


class Splits(unittest.TestCase):
    def test_split_of(self):
        for web in WEBS:
            log = joining.log_of(web)
            split = joining.split_of(web)
            self.assertEqual(split, (joining.groups(web, log), joining.knot_back(web, log)))
            if reckon.is_plain(web):
                self.assertIsNone(joining.judge_split(web, split))
                many = len(reckon.greatest_knots(web)[0])
                self.assertEqual([len(split[0]), len(split[1]), reckon.fewest_groups(web)], [many] * 3)
        self.assertEqual([joining.split_of(NONE), joining.split_of(LOOSE)], [((), ()), (((A, B, C),), (A,))])

    def test_splits_of_webs_of_rooms(self):
        for web in plain_webs():
            split = joining.split_of(web)
            self.assertIsNone(joining.judge_split(web, split))
            self.assertEqual(len(split[0]), len(split[1]))
            if len(web[0]) < 13:
                self.assertEqual([joining.least_groups(web), len(joining.greatest_knot(web))], [len(split[0])] * 2)

    def test_the_sequence_of_the_faults(self):
        right = ((A, C), (B, D))
        told = [((right, (A, B)), None), ((right, (B, C)), None), ((right, ()), ("many", 2, 0)),
                ((right, (A, D)), ("knot", A, D)), ((right, (A, C, D)), ("knot", A, C)),
                ((((A, B), (C, D)), (A, D)), ("group", A, B)), ((((A, D), (B, C)), (A,)), ("group", B, C)),
                ((((A, B), (C,)), (A, D)), ("member", D)), ((((A, C), (A, D), (B,)), (A, D)), ("member", A)),
                ((((A, C), (B, C), (D,)), (A, D)), ("member", C)), (((), ()), ("member", A)),
                ((right[::-1], (A, B)), ("form",)), ((right + right[1:], (A, B)), ("form",)),
                ((((), (A, C), (B, D)), (A, B)), ("form",)), ((right, (B, A)), ("form",)), ((right, (A, E)), ("form",)),
                ((((A, C), (B, D), (E,)), (A, B)), ("form",)), ((((A, C), (D, B)), (A, B)), ("form",)),
                ((right,), ("form",)), ((right, (A, B), ()), ("form",)), ([right, (A, B)], ("form",)),
                ((list(right), (A, B)), ("form",)), ((right, [A, B]), ("form",)),
                ((((A,), (B,), (C,), (D,)), (A, B)), ("many", 4, 2))]
        for value, fault in told:
            self.assertEqual(joining.judge_split(LINE, value), fault, value)
            self.assertEqual(told_split_fault(LINE, value), fault, value)
        # Of all pairs in one group the least, though that of an earlier group is greater.
        full = ((A, B, C, D), ((A, D), (B, C)))
        self.assertEqual(joining.judge_split(full, (((A, D), (B, C)), ())), ("group", A, D))
        crossed = ((A, B, C, D, E), ((B, C), (D, E)))
        self.assertEqual(joining.judge_split(crossed, (((A, D, E), (B, C)), ())), ("group", B, C))
        self.assertEqual([joining.judge_split(NONE, ((), ())), joining.judge_split(NONE, ((), (A,)))],
                         [None, ("form",)])
        self.assertEqual(joining.judge_split(FIVE, (((A, C), (B, D), (E,)), (A, B))), ("many", 3, 2))

    def test_changed_splits_and_any_value(self):
        chance = random.Random(64)
        for web in WEBS:
            value = joining.split_of(web)
            for _ in range(6):
                self.assertEqual(joining.judge_split(web, value), told_split_fault(web, value), (web, value))
                value = altered(chance, value)
        for value in some_values():
            before = copy.deepcopy(value)
            self.assertEqual(joining.judge_split(LINE, value), told_split_fault(LINE, value))
            self.assertEqual(value, before)
        for value in of_other_kinds((((A, C), (B, D)), (A, B))):
            self.assertEqual(joining.judge_split(LINE, value), ("form",))


class ByTrying(unittest.TestCase):
    def test_least_groups_and_greatest_knot(self):
        for web in WEBS:
            self.assertEqual(joining.least_groups(web), reckon.fewest_groups(web))
            self.assertEqual(joining.greatest_knot(web), reckon.greatest_knots(web)[0])
        for web in drawn_webs(60, 12):
            self.assertEqual(joining.greatest_knot(web), reckon.greatest_knots(web)[0])
        self.assertEqual([joining.least_groups(NONE), joining.greatest_knot(NONE)], [0, ()])
        self.assertEqual([joining.least_groups(LOOSE), joining.greatest_knot(LOOSE)], [1, (A,)])


class LargeWebs(unittest.TestCase):
    """Webs of sixty members: plain ones of their own, and those of lots of rooms."""

    def members(self):
        return tuple((x, y) for x in range(6) for y in range(10))

    def check_plain(self, web):
        log = joining.log_of(web)
        self.assertIsNone(joining.judge_log(web, log))
        self.assertIs(joining.is_spent(web, log), True)
        for (a, b), paper in list(zip(log, joining.log_papers(web, log)))[:1]:
            self.assertIsNone(webs.judge_two_pair(web, a, b, paper))
        self.assertIsNone(joining.judge_split(web, joining.split_of(web)))
        self.assertIsNone(joining.stuck_web(web))

    def test_lines_halves_and_stretches(self):
        members = self.members()
        chance = random.Random(65)
        stretches = {member: sorted((chance.randrange(90), chance.randrange(90))) for member in members}
        pairs = list(itertools.combinations(members, 2))
        for ties in (zip(members, members[1:]), itertools.product(members[:30], members[30:]), (), pairs,
                     [(a, b) for a, b in pairs
                      if stretches[a][0] <= stretches[b][1] and stretches[b][0] <= stretches[a][1]]):
            web = (members, tuple(sorted(ties)))
            self.check_plain(web)
            self.check_plain(webs.contrary(web))

    def test_rooms_of_a_hundred_cells(self):
        chance = random.Random(66)
        for room in drawn_rooms(12, 100):
            web = webs.web_of(room, some_of(chance, room, 60))
            self.check_plain(web)
            self.check_plain(webs.contrary(web))

    def test_any_web(self):
        chance = random.Random(67)
        for share in (3, 10, 50, 90):
            web = drawn_web(chance, 60, share)
            log = joining.log_of(web)
            fault = joining.judge_log(web, log)
            self.assertIn((fault or (None,))[0], (None, "rest"))
            self.assertEqual(joining.stuck_web(web), joining.web_behind(web, log) if fault else None)
            self.assertEqual(sorted(m for part in joining.groups(web, log) for m in part), list(web[0]))


if __name__ == "__main__":
    unittest.main()
