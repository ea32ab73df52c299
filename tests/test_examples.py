"""The examples of the document's interface, word for word, as they stand in tests/examples."""

import os
import unittest

from nodetour import errors

FOLDER = os.path.join(os.path.dirname(os.path.abspath(__file__)), "examples")
INDENT = "    "
PROMPT = ">>> "


def examples_in(path):
    """Return the list of pairs (statement, the line told below it or None)."""
    found = []
    with open(path, encoding="ascii") as file:
        for row in file.read().splitlines():
            if not row.startswith(INDENT):
                raise AssertionError(f"no example: {row}")
            row = row[len(INDENT):]
            if row.startswith(PROMPT):
                found.append((row[len(PROMPT):], None))
            else:
                found[-1] = (found[-1][0], row)
    return found


def outcome(statement, names):
    """Return what the document would tell below a statement."""
    try:
        return repr(eval(statement, names))
    except errors.BadText as e:
        return f"raises {type(e).__name__}({e.place!r})"


class Examples(unittest.TestCase):
    def check(self, name):
        names = {}
        told = 0
        for statement, line in examples_in(os.path.join(FOLDER, name)):
            if line is None:
                exec(statement, names)
            else:
                self.assertEqual(outcome(statement, names), line, statement)
                told += 1
        return told

    def test_all_stages(self):
        """How many lines are told is counted beside, so that no stage is left out."""
        told = {name: self.check(name) for name in sorted(os.listdir(FOLDER))}
        self.assertEqual(told, {"stage_01.txt": 4, "stage_02.txt": 5, "stage_03.txt": 6, "stage_04.txt": 6,
                                "stage_05.txt": 7, "stage_06.txt": 5, "stage_07.txt": 5, "stage_08.txt": 6,
                                "stage_09.txt": 7, "stage_10.txt": 5, "stage_11.txt": 6, "stage_12.txt": 4,
                                "stage_13.txt": 3, "stage_14.txt": 6})


if __name__ == "__main__":
    unittest.main()
