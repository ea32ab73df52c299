"""The names and arguments of the document's interface, and that each is defined in its own file."""

import importlib
import inspect
import unittest

TOLD = {
    "nodetour.errors": "BadText(place); BadRoom(word); BadPaper(word); BadDeed(); NoWay(); TooMany(); NothingDone()",
    "nodetour.rooms": (
        "is_cell(value); is_lot(value); lot_of(cells); side_cells(cell); near_cells(cell); united(one, other); "
        "shared(one, other); taken_out(one, other); lies_in(one, other); pieces(lot); holes(lot); filled(lot); "
        "judge_room(value); is_room(value); box_of(lot); shifted(lot, dx, dy); quarter_turned(lot, k); "
        "mirrored(lot); posed(lot, t); posed_cell(cell, t); at_home(lot); least_pose(lot); "
        "pose_between(one, other); finer(lot, k); block_of(cell, k); rows_of(lot); columns_of(lot); "
        "row_of(lot, cell); column_of(lot, cell); ends_of(lot); rim_length(lot); counts(lot)"),
    "nodetour.texts": (
        "lot_text(lot); read_lot(text); plan_text(room, stalls, spots); read_plan(text); cells_text(cells); "
        "read_cells(text); weights_text(pairs); read_weights(text); joins_text(joins); read_joins(text); "
        "read_way(text)"),
}


def arguments(named):
    """Return the names of the arguments of a function, or of a class without its own object."""
    if not inspect.isclass(named):
        return list(inspect.signature(named).parameters)
    if "__init__" not in vars(named):
        return []
    return list(inspect.signature(named.__init__).parameters)[1:]


class Interface(unittest.TestCase):
    def test_names_and_arguments(self):
        for path, told in TOLD.items():
            module = importlib.import_module(path)
            for entry in told.split("; "):
                name, rest = entry[:-1].split("(")
                named = getattr(module, name)
                self.assertEqual(named.__module__, path, name)
                self.assertEqual(arguments(named), rest.split(", ") if rest else [], name)


if __name__ == "__main__":
    unittest.main()
