"""[0.2] and the interface of nodetour/errors.py."""

import copy
import unittest

from nodetour import errors, texts
from tests.support import nested, some_values

WITH_PLACE = (errors.BadText,)
WITH_WORD = (errors.BadRoom, errors.BadPaper)
WITHOUT = (errors.BadDeed, errors.NoWay, errors.TooMany, errors.NothingDone)


def kept_by(kind, value):
    """Return what an error made with a value keeps of it."""
    made = kind(value)
    return made.place if kind in WITH_PLACE else made.word


def shares(one, other):
    """Return whether two equal values hold a list or a dict in common."""
    if isinstance(one, (list, dict)) and one is other:
        return True
    if isinstance(one, dict):
        return any(shares(one[key], other[key]) for key in one)
    if isinstance(one, (list, tuple)):
        return any(shares(a, b) for a, b in zip(one, other))
    return False


def kinds_in(value):
    """Return the shape of a value with the class of each of its parts."""
    if isinstance(value, dict):
        return (dict, [(key, kinds_in(part)) for key, part in value.items()])
    if isinstance(value, (list, tuple)):
        return (type(value), [kinds_in(part) for part in value])
    return (type(value), value)


class Classes(unittest.TestCase):
    def test_all_stand_directly_beneath_room_error(self):
        self.assertEqual(errors.RoomError.__bases__, (ValueError,))
        for kind in WITH_PLACE + WITH_WORD + WITHOUT:
            self.assertEqual(kind.__bases__, (errors.RoomError,), kind)
            self.assertEqual(kind.__module__, "nodetour.errors")

    def test_they_can_be_raised_and_caught(self):
        for kind in WITHOUT:
            with self.assertRaises(errors.RoomError):
                raise kind()
        with self.assertRaises(errors.RoomError):
            raise errors.BadRoom("word")
        with self.assertRaises(ValueError):
            raise errors.RoomError()

    def test_each_has_just_its_attribute(self):
        self.assertEqual(vars(errors.BadText(3)), {"place": 3})
        self.assertEqual(vars(errors.BadRoom("hole")), {"word": "hole"})
        self.assertEqual(vars(errors.BadPaper(("form",))), {"word": ("form",)})
        for kind in WITHOUT:
            self.assertEqual(vars(kind()), {})

    def test_texts_raises_the_error_that_stands_in_errors(self):
        self.assertIs(texts.BadText, errors.BadText)


class Copies(unittest.TestCase):
    def test_any_value_is_kept_equal_and_of_the_same_kinds(self):
        for kind in WITH_PLACE + WITH_WORD:
            for value in some_values():
                kept = kept_by(kind, value)
                self.assertEqual(kept, value)
                self.assertEqual(kinds_in(kept), kinds_in(value))
                self.assertFalse(shares(kept, value))

    def test_later_changes_do_not_reach_what_is_kept(self):
        for kind in WITH_PLACE + WITH_WORD:
            value = [1, ([2, {"a": [3], (1, 2): ({},)}],), {"b": (4, [5])}]
            before = copy.deepcopy(value)
            kept = kept_by(kind, value)
            value[1][0][1]["a"].append(6)
            value[1][0][1][(1, 2)][0]["c"] = 7
            value[1][0].append(8)
            value[2]["b"][1].clear()
            value[2]["d"] = 9
            value.append(10)
            self.assertEqual(kept, before)

    def test_changes_of_what_is_kept_do_not_reach_the_value(self):
        value = ([1], {"a": [2]})
        errors.BadText(value).place[0].append(3)
        errors.BadRoom(value).word[1]["a"].append(4)
        self.assertEqual(value, ([1], {"a": [2]}))

    def test_two_errors_of_one_value_share_nothing(self):
        value = [[1]]
        one, other = errors.BadPaper(value), errors.BadPaper(value)
        one.word[0].append(2)
        self.assertEqual(other.word, [[1]])

    def test_very_deep_values_are_copied_down_to_the_bottom(self):
        for kind in (list, tuple, dict):
            bottom = [1]
            value = nested(bottom, 20000, kind)
            kept = errors.BadText(value).place
            bottom.append(2)
            for _ in range(20000):
                self.assertIs(type(kept), kind)
                kept = kept["k"] if kind is dict else kept[0]
            self.assertEqual(kept, [1])


if __name__ == "__main__":
    unittest.main()
