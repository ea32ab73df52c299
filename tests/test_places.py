"""[2.1] to [2.4]: the places of refused texts against a plain reckoning that reads nothing sign by sign.

A text is a beginning of some text of a form if one of a few endings makes it a whole one; what is
whole a regular expression tells. The place is the length of the longest beginning for which that is so.
"""

import itertools
import random
import re
import unittest

from nodetour import texts
from tests.support import some_lots
from tests.test_texts import place_of, some_cells, some_plans

ANY = "(?:0|-?[1-9][0-9]{0,8})"
FROM_0 = "(?:0|[1-9][0-9]{0,8})"


def tails_of(*wholes):
    """Return the endings of some whole texts, "" too."""
    return sorted({whole[k:] for whole in wholes for k in range(len(whole) + 1)}, key=len)


class Line:
    """A line of items."""

    def __init__(self, item, sample):
        self.whole = re.compile(f"-|{item}(?: {item})*")
        self.tails = tails_of(sample)

    def is_whole(self, text):
        return self.whole.fullmatch(text) is not None

    def begins(self, text):
        return any(self.is_whole(text + tail) for tail in self.tails)

    def told(self, text):
        return "read" if self.is_whole(text) else longest(self, text)


class Picture:
    """A picture of a lot or a plan."""

    def __init__(self, signs, word):
        self.word = word
        self.whole = re.compile(f"at {ANY} {ANY}\n([{signs}]+(?:\n[{signs}]+)*)")
        self.heads = tails_of("at 1 1\n#")

    def lines(self, text):
        """Return the lines of a whole picture, None of what is none."""
        found = self.whole.fullmatch(text)
        if found is None or len({len(line) for line in found[1].split("\n")}) > 1:
            return None
        return found[1].split("\n")

    def begins(self, text):
        if self.word.startswith(text):
            return True
        tails = self.heads + ["#" * n for n in range(len(text))]
        return any(self.lines(text + tail) for tail in tails)

    def told(self, text):
        if text != "" and text == self.word:
            return "read"
        lines = self.lines(text)
        if lines is None:
            return longest(self, text)
        rims = [lines[0], lines[-1], [line[0] for line in lines], [line[-1] for line in lines]]
        return 0 if any(set(rim) == {"."} for rim in rims) else "read"


class Way:
    """A text of steps."""

    def begins(self, text):
        return set(text) <= set("rlud")

    def told(self, text):
        return "read" if self.begins(text) else longest(self, text)


def longest(form, text):
    """Return the length of the longest beginning of a text that is a beginning of some text of the form."""
    return max([0] + [n for n in range(len(text) + 1) if form.begins(text[:n])])


CELLS = Line(f"{ANY},{ANY}", "1,1")
WEIGHTS = Line(f"{ANY},{ANY}:{FROM_0}", "1,1:1")
JOINS = Line(rf"{ANY},{ANY}\+{ANY},{ANY}", "1,1+1,1")
LOT = Picture("#.", "empty")
PLAN = Picture("#.ox*", "")


def spoilt(text, chance, signs):
    """Return a text with a sign put in, left out, exchanged, or two exchanged, or cut; or several of these."""
    for _ in range(chance.choice((1, 1, 1, 2, 3))):
        at = chance.randrange(len(text) + 1)
        way = chance.randrange(5)
        if way == 0:
            text = text[:at] + chance.choice(signs) + text[at:]
        elif way == 1:
            text = text[:at] + text[at + 1:]
        elif way == 2:
            text = text[:at] + chance.choice(signs) + text[at + 1:]
        elif way == 3:
            other = chance.randrange(len(text) + 1)
            low, high = min(at, other), max(at, other)
            text = text[:low] + text[high:high + 1] + text[low + 1:high] + text[low:low + 1] + text[high + 1:]
        else:
            text = text[:at]
    return text


class Places(unittest.TestCase):
    def check(self, read, form, wholes, signs):
        """Compare the reader with the plain reckoning over many spoilt texts."""
        chance = random.Random(5)
        seen = set()
        for whole in wholes:
            self.assertEqual(place_of(read, whole), "read", whole)
            self.assertEqual(form.told(whole), "read", whole)
            for _ in range(12):
                text = spoilt(whole, chance, signs)
                if text not in seen:
                    seen.add(text)
                    self.assertEqual(place_of(read, text), form.told(text), text)
        self.assertGreater(len(seen), 1000)

    def check_all(self, read, form, begin, signs, most):
        """Compare the reader with the plain reckoning over all texts that begin so and go on with some signs."""
        for n in range(most + 1):
            for more in itertools.product(signs, repeat=n):
                text = begin + "".join(more)
                self.assertEqual(place_of(read, text), form.told(text), text)

    def test_lots(self):
        wholes = [texts.lot_text(lot) for lot in some_lots(150, 5)] + ["at -999999999 999999999\n#", "empty"] * 20
        self.check(texts.read_lot, LOT, wholes, "at -0159#.\nempyox*,")

    def test_plans(self):
        wholes = [texts.plan_text(*plan) for plan in some_plans()[::5]]
        self.check(texts.read_plan, PLAN, wholes, "at -0159#.\nempyox*,")

    def test_cells(self):
        chance = random.Random(6)
        wholes = [texts.cells_text(some_cells(chance)) for _ in range(250)]
        self.check(texts.read_cells, CELLS, wholes, "-0159, \n:+#")

    def test_weights(self):
        chance = random.Random(7)
        wholes = [texts.weights_text([(cell, abs(cell[0])) for cell in some_cells(chance)]) for _ in range(250)]
        self.check(texts.read_weights, WEIGHTS, wholes, "-0159, \n:+#")

    def test_joins(self):
        chance = random.Random(8)
        wholes = [texts.joins_text(list(zip(some_cells(chance), some_cells(chance)))) for _ in range(250)]
        self.check(texts.read_joins, JOINS, wholes, "-0159, \n:+#")

    def test_ways(self):
        chance = random.Random(9)
        wholes = ["".join(chance.choice("rlud") for _ in range(chance.randrange(12))) for _ in range(250)]
        self.check(texts.read_way, Way(), wholes, "rludRLUDx \n-")

    def test_all_short_texts(self):
        self.check_all(texts.read_cells, CELLS, "", "-01, ", 5)
        self.check_all(texts.read_cells, CELLS, "1,123456789", "-01, ", 3)
        self.check_all(texts.read_weights, WEIGHTS, "1,1", "-01,: ", 4)
        self.check_all(texts.read_weights, WEIGHTS, "-7,0:12345678", "-01,: ", 3)
        self.check_all(texts.read_joins, JOINS, "0,1", "-01,+ ", 4)
        self.check_all(texts.read_joins, JOINS, "0,1+-9", "-01,+ ", 4)
        self.check_all(texts.read_lot, LOT, "", "at 1e\n", 4)
        self.check_all(texts.read_lot, LOT, "at ", "-01 \n#", 4)
        self.check_all(texts.read_lot, LOT, "at 0 0\n", "#.\n", 6)
        self.check_all(texts.read_lot, LOT, "empt", "emty\n", 3)
        self.check_all(texts.read_plan, PLAN, "at 0 0\n", "#.ox\n", 4)


if __name__ == "__main__":
    unittest.main()
