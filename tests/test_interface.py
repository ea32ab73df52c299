"""The names and arguments of the document's interface, and that each is defined in its own file."""

import importlib
import inspect
import unittest

TOLD = {
    "nodetour.errors": "BadText(place); BadRoom(word); BadPaper(word); BadDeed(); NoWay(); TooMany(); NothingDone()",
    "nodetour.rooms": (
        "is_cell(value); is_lot(value); lot_of(cells); side_cells(cell); near_cells(cell); united(one, other); "
        "shared(one, other); taken_out(one, other); lies_in(one, other); pieces(lot); holes(lot); filled(lot); "
        "judge_room(value); is_room(value); box_of(lot); shifted(lot, dx, dy); quarter_turned(lot, k); "
        "mirrored(lot); posed(lot, t); posed_cell(cell, t); at_home(lot); least_pose(lot); "
        "pose_between(one, other); finer(lot, k); block_of(cell, k); rows_of(lot); columns_of(lot); "
        "row_of(lot, cell); column_of(lot, cell); ends_of(lot); rim_length(lot); counts(lot)"),
    "nodetour.texts": (
        "lot_text(lot); read_lot(text); plan_text(room, stalls, spots); read_plan(text); cells_text(cells); "
        "read_cells(text); weights_text(pairs); read_weights(text); joins_text(joins); read_joins(text); "
        "read_way(text)"),
    "nodetour.ways": (
        "trail(start, steps); judge_way(room, start, end, value); is_way(room, start, end, value); "
        "first_way(room, start, end); last_way(room, start, end); serves(room, stall, spot); back_way(steps); "
        "ways_many(room, start, end); way_at(room, start, end, n); way_number(room, start, end, steps); "
        "lower_of(one, other); upper_of(one, other); cells_between(room, start, end); "
        "meeting_way(room, one, middle, other); middles(room, one, other); shortest_steps(room, one, other); "
        "detour_of(room, one, other)"),
    "nodetour.fields": (
        "field(room, stall); corner_fields(room, stall); all_fields(room); common_stalls(room, lot); "
        "are_tied(room, one, other); tied_to(room, spot); center(room); like_lots(room); hard_spots(room); "
        "good_stalls(room); hard_in(room, lot); lit(room, stalls); dark_in(room, lot, stalls); "
        "serve_all(room, lot, stalls); seen_by_most(room, lot); alone_served(room, stalls); "
        "judge_field(room, stall, value); judge_common(room, lot, value); gained(room, one, other); "
        "walk_lit(room, cells)"),
    "nodetour.webs": (
        "is_web(value); web_of(room, lot); contrary(web); neighbours(web, a); are_next(web, a, b); "
        "web_part(web, some); is_bare_way(web, value); is_bare_round(web, value); long_way(web, a, b); "
        "long_round(web); is_plain(web); common_ones(web, a, b); pieces_without(web, gone); "
        "is_two_pair(web, a, b); first_two_pair(web); two_pair_paper(web, a, b); "
        "judge_two_pair(web, a, b, value); like_ones(web); alone(web); all_next(web)"),
    "nodetour.joining": (
        "joined(web, a, b); web_behind(web, log); groups(web, log); log_of(web); is_spent(web, log); "
        "knot_back(web, log); judge_log(web, value); log_papers(web, log); split_of(web); "
        "judge_split(web, value); stuck_web(web); least_groups(web); greatest_knot(web)"),
    "nodetour.stalls": (
        "answer(room); answer_for(room, lot); fewest(room, lot); judge_answer(room, lot, value); "
        "judge_stalls(room, lot, value); judge_spots(room, lot, value); served_by(room, stalls, spot); "
        "dealt(room, stalls, lot); plan_for(room, stalls, lot); judge_plan(room, stalls, lot, value)"),
    "nodetour.helly": (
        "meeting(room, lot); judge_meeting(room, lot, value); is_lot_of_one(room, lot); "
        "greatest_lots(room, lot); greatest_one(room, lot); load(room, lot); shifts(room, lot); "
        "judge_shifts(room, lot, value); shift_of(dealing, spot); moved_spot(room, dealing, spot, k); "
        "balanced(room, lot, n); is_even_for(room, dealing, n); bounds(room, lot)"),
    "nodetour.weights": (
        "judge_weights(room, value); is_weights(room, value); weight_of(weights, cell); whole_weight(weights); "
        "even_weights(lot, w); weights_sum(one, other); times_weights(weights, k); heavier(weights, spot, k); "
        "size_of(setting); times_served(room, setting, spot); judge_setting(room, weights, value); "
        "judge_apart(room, weights, value); burden(weights, lot); heaviest(room, weights); "
        "fewest_for(room, weights); weighted_answer(room, weights); judge_weighted(room, weights, value); "
        "heaviest_with(room, weights, spot); spare_of(room, weights, spot); full_spots(room, weights)"),
    "nodetour.choices": (
        "sole_spots(room, lot, stalls, k); places_for(room, lot, stalls, k); spare_stalls(room, lot, stalls); "
        "put_at(room, lot, stalls, k, cell); needed_spots(room, lot); possible_spots(room, lot); "
        "good_places(room, lot); answer_with(room, lot, cell); answers(room, lot); fewest_but(room, lot, shut); "
        "stalls_but(room, lot, shut); sure_places(room, lot); served_of(room, lot, stalls); "
        "most_served(room, lot, k); by_greed(room, lot)"),
    "nodetour.shapes": (
        "bar(m, n); stairs(k); comb(k, h); corridor_cells(steps); is_corridor(value); corridor(steps); "
        "corridor_stretch(steps, i); corridor_stalls(steps); corridor_spots(steps); spiral(k); zigzag(k); "
        "told_number(word, numbers); shape_room(word, numbers)"),
    "nodetour.cutting": (
        "cut_at(room, way, c); cut_bounds(room, way, c); put_beside(one, other, dy); put_above(one, other, dx); "
        "gate(one, other, dy)"),
    "nodetour.kept": (
        "new_board(room); is_deed(board, value); done(board, deed); boards(board); undone(board); redone(board); "
        "dark_now(board); all_served(board); further(board); how_many_further(board); idle(board); "
        "openable(board); wallable(board); change_by(board, deed)"),
    "nodetour.surveys": (
        "survey(rooms); numbers_of(rooms); ranked(rooms); report(room); judge_report(room, value); "
        "put_together(one, other); like_rooms(room); compared(one, other); seen_shares(room, stalls); "
        "most_serving(room); hooks(k)"),
    "nodetour.deeds": "deed_text(deed); read_deed(text); log_text(deeds); read_log(text)",
    "nodetour.house": "House(room)",
    "nodetour.desk": "Desk(room)",
}
METHODS = {
    "nodetour.house.House": (
        "board(); do(deed); undo(); redo(); deeds(); twin(); serve(); thin(); room(); stalls(); dark(); served(); "
        "missing(); spare(); answer()"),
    "nodetour.desk.Desk": "house(); say(line)",
}


def arguments(named):
    """Return the names of the arguments of a function, or of a class without its own object."""
    if not inspect.isclass(named):
        return list(inspect.signature(named).parameters)
    if "__init__" not in vars(named):
        return []
    return list(inspect.signature(named.__init__).parameters)[1:]


class Interface(unittest.TestCase):
    def test_names_and_arguments(self):
        for path, told in TOLD.items():
            module = importlib.import_module(path)
            for entry in told.split("; "):
                name, rest = entry[:-1].split("(")
                named = getattr(module, name)
                self.assertEqual(named.__module__, path, name)
                self.assertEqual(arguments(named), rest.split(", ") if rest else [], name)

    def test_methods_are_defined_in_the_class_itself(self):
        for path, told in METHODS.items():
            place, name = path.rsplit(".", 1)
            named = vars(getattr(importlib.import_module(place), name))
            for entry in told.split("; "):
                method, rest = entry[:-1].split("(")
                self.assertTrue(inspect.isfunction(named[method]), method)
                self.assertEqual(arguments(named[method])[1:], rest.split(", ") if rest else [], method)

    def test_each_file_of_the_document_is_told(self):
        self.assertEqual(len(TOLD), 18)


if __name__ == "__main__":
    unittest.main()
