"""[14.1]: deeds and logs as texts, and the place of the first fault."""

import itertools
import random
import re
import unittest

from nodetour import deeds
from tests.boardgame import WORDS
from tests.support import BIG, some_values
from tests.test_places import longest, spoilt, tails_of
from tests.test_texts import place_of

INTEGER = "(?:0|-?[1-9][0-9]{0,59})"
DEED = f"(?:open|wall|set|take) {INTEGER},{INTEGER}"
SIGNS = "openwalstk -0159,\n\tOx"
ENDS = (0, 1, -1, 10, -10, 999999999, 1234567890, BIG, -BIG)


class Form:
    """A text that can be read, or its beginning: one of a few endings makes it a whole one."""

    def __init__(self, whole):
        self.whole = re.compile(whole)
        self.tails = tails_of(*[f"{word} 1,1" for word in WORDS])

    def begins(self, text):
        return any(self.whole.fullmatch(text + tail) for tail in self.tails)

    def told(self, text):
        return "read" if self.whole.fullmatch(text) else longest(self, text)


ONE_DEED, LOG = Form(DEED), Form(f"(?:{DEED}(?:\n{DEED})*)?")
READERS = ((deeds.read_deed, ONE_DEED), (deeds.read_log, LOG))


def some_deeds(chance, most):
    """Return a tuple of deeds, no more than so many."""
    return tuple((chance.choice(WORDS), (chance.choice(ENDS), chance.choice(ENDS)))
                 for _ in range(chance.randrange(most + 1)))


class Texts(unittest.TestCase):
    def test_written(self):
        told = [(("open", (2, -1)), "open 2,-1"), (("wall", (0, 0)), "wall 0,0"), (("set", (-10, 10)), "set -10,10"),
                (("take", (BIG, -BIG)), "take " + "9" * 60 + ",-" + "9" * 60)]
        for deed, text in told:
            self.assertEqual([deeds.deed_text(deed), deeds.read_deed(text)], [text, deed])
        log = tuple(deed for deed, _ in told)
        self.assertEqual(deeds.log_text(log), "\n".join(text for _, text in told))
        self.assertEqual([deeds.log_text(()), deeds.read_log("")], ["", ()])

    def test_what_was_written_is_read_again(self):
        chance = random.Random(141)
        for _ in range(400):
            log = some_deeds(chance, 6)
            self.assertEqual(deeds.read_log(deeds.log_text(log)), log)
            for deed in log:
                text = deeds.deed_text(deed)
                self.assertEqual([deeds.read_deed(text), deeds.read_log(text)], [deed, (deed,)])
        for word in WORDS:
            for x, y in itertools.product(ENDS, repeat=2):
                self.assertEqual(deeds.read_deed(deeds.deed_text((word, (x, y)))), (word, (x, y)))

    def test_a_log_is_a_tuple_of_tuples(self):
        log = deeds.read_log("set 1,1\nopen 2,1")
        self.assertEqual([type(log)] + [type(part) for part in log + log[0][1:]], [tuple] * 4)

    def test_long_logs(self):
        chance = random.Random(142)
        log = tuple((chance.choice(WORDS), (chance.choice((BIG, -BIG)), 1)) for _ in range(110))
        text = deeds.log_text(log)
        self.assertTrue(7000 < len(text) < 8000)
        self.assertEqual(deeds.read_log(text), log)
        self.assertEqual(place_of(deeds.read_log, text + "\nx"), len(text) + 1)
        self.assertEqual(place_of(deeds.read_deed, text), text.index("\n"))


class Places(unittest.TestCase):
    def test_each_beginning(self):
        for word in WORDS:
            for text in (f"{word} -10,205", f"{word} 0,-7", f"{word} {-BIG},{BIG}"):
                for n in range(len(text)):
                    told = n if not ONE_DEED.whole.fullmatch(text[:n]) else "read"
                    self.assertEqual(place_of(deeds.read_deed, text[:n]), told, text[:n])
                    for sign in "#\n":
                        if told == n or sign == "#":
                            self.assertEqual(place_of(deeds.read_deed, text[:n] + sign), n)
        self.assertEqual([place_of(deeds.read_log, text) for text in ("o", "op", "set", "set ", "take 1", "wall 1,")],
                         [1, 2, 3, 4, 6, 7])

    def test_edges(self):
        told = [("", 0), ("set 2 1", 5), ("set 2,1 ", 7), ("set 2,1\n", 7), (" set 2,1", 0), ("set  2,1", 4),
                ("Set 2,1", 0), ("sat 2,1", 1), ("opet 2,1", 3), ("set\t2,1", 3), ("set 02,1", 5), ("set 2,01", 7),
                ("set -0,1", 5), ("set 2,-0", 7), ("set --1,1", 5), ("set +1,1", 4), ("set 2,", 6), ("set 2,-", 7),
                ("set2,1", 3), ("set 2,1set 2,1", 7), ("set 2,1,1", 7), ("undo", 0), ("set 1.0,1", 5)]
        for text, place in told:
            self.assertEqual(place_of(deeds.read_deed, text), place, text)
        told = [("set 2,1\n", 8), ("\n", 0), ("\nset 2,1", 0), ("set 2,1\n\nset 2,1", 8), ("set 2,1\nset 2,1\n", 16),
                ("set 2,1 \nset 2,1", 7), ("set 2,1\nset 2,", 14), ("set 2,1\nse", 10), ("set 2,1\nx", 8),
                ("set 2,1\r\nset 2,1", 7), ("nothing", 0), ("-", 0), ("set 2,1\nopen 2,1\ntake 02,1", 23)]
        for text, place in told:
            self.assertEqual(place_of(deeds.read_log, text), place, text)

    def test_integers_of_sixty_digits_and_of_sixty_one(self):
        sixty = "1" + "0" * 59
        for sign in ("", "-"):
            at = len(f"wall {sign}")
            self.assertEqual(deeds.read_deed(f"wall {sign}{sixty},{sign}{sixty}")[1], (int(sign + sixty),) * 2)
            for read in (deeds.read_deed, deeds.read_log):
                self.assertEqual(place_of(read, f"wall {sign}{sixty}0,1"), at + 60)
                self.assertEqual(place_of(read, f"wall 1,{sign}{sixty}0"), at + 62)
                self.assertEqual(place_of(read, f"wall 1,{sign}{sixty}"), "read")

    def test_spoilt_texts(self):
        chance = random.Random(143)
        for (read, form), most in zip(READERS, (1, 4)):
            kinds = set()
            for _ in range(4000):
                text = deeds.log_text(some_deeds(chance, most))
                text = spoilt(text, chance, SIGNS)
                told = form.told(text)
                self.assertEqual(place_of(read, text), told, text)
                kinds.add(told)
            self.assertGreater(len(kinds), 20)

    def test_all_short_texts(self):
        for read, form in READERS:
            for begin, signs, most in (("", "opsetwak", 4), ("set ", "-01, \n", 5), ("take 1,2", "0\n-stke", 4),
                                       ("open 1,1\n", "open 1,", 4), ("wall " + "1" * 58, "-01,\n", 4)):
                for n in range(most + 1):
                    for more in itertools.product(signs, repeat=n):
                        text = begin + "".join(more)
                        self.assertEqual(place_of(read, text), form.told(text), text)

    def test_any_value(self):
        for value in some_values() + [b"set 1,1", ["set 1,1"], ("set", (1, 1)), (("set", (1, 1)),)]:
            for read, form in READERS:
                self.assertEqual(place_of(read, value), form.told(value) if isinstance(value, str) else 0)


if __name__ == "__main__":
    unittest.main()
