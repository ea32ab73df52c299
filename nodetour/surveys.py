"""Surveys of rooms: their numbers, reports and a judge of these, rooms put together and compared, hooks."""

from nodetour.fields import seen_by_most, times_seen, walk_lit
from nodetour.rooms import is_lot, is_number, lot_of, mirrored, quarter_turned, shifted, united
from nodetour.stalls import answer, dealt, fewest, judge_answer


def number_of(room):
    """Return how many stalls at least serve a room."""
    return fewest(room, room)


def survey(rooms):
    """Return the list, for each room, of how many cells it has, its number, and the most cells that a stall serves."""
    return [(len(room), number_of(room), seen_by_most(room, room)[1]) for room in rooms]


def numbers_of(rooms):
    """Return the list of the numbers of rooms."""
    return [number_of(room) for room in rooms]


def ranked(rooms):
    """Return the ascending tuple of the pairs of the number of a room and its place in the list."""
    return tuple(sorted([(number, place) for place, number in enumerate(numbers_of(rooms))]))


def report(room):
    """Return the report of a room: its number, stalls, spots, and what each stall is the first to serve."""
    stalls, spots = answer(room)
    return (len(stalls), stalls, spots, dealt(room, stalls, room))


def judge_report(room, value):
    """Return None if any value is a report of a room, any right one, else its first fault."""
    if not isinstance(value, tuple) or len(value) != 4 or not is_number(value[0]):
        return ("form",)
    number, stalls, spots, lots = value
    fault = judge_answer(room, room, (stalls, spots))
    if fault is not None:
        return ("answer", fault)
    if number != len(stalls):
        return ("number",)
    if not is_tuple_of_lots(lots) or lots != dealt(room, stalls, room):
        return ("lots",)
    return None


def is_tuple_of_lots(value):
    """Return whether any value is a tuple of lots, in any sequence."""
    if not isinstance(value, tuple):
        return False
    for lot in value:
        if not is_lot(lot):
            return False
    return True


def put_together(one, other):
    """Return the room of one and of the other, the least cell of which is put just right of the greatest of one."""
    (x, y), (u, v) = one[-1], other[0]
    return united(one, shifted(other, x + 1 - u, y - v))


def like_rooms(room):
    """Return the list of the pairs of a word and the room mirrored, turned by a quarter, shifted."""
    return [("mirrored", mirrored(room)), ("turned", quarter_turned(room, 1)), ("shifted", shifted(room, 3, -2))]


def compared(one, other):
    """Return -1, 0 or 1 as the number of one room is less than, as great as, greater than that of the other."""
    here, there = numbers_of((one, other))
    if here == there:
        return 0
    return -1 if here < there else 1


def seen_shares(room, stalls):
    """Return the list of the pairs of a stall and how many cells it serves."""
    return list(zip(stalls, walk_lit(room, stalls)))


def most_serving(room):
    """Return the lot of the cells that serve the most cells of a room."""
    many = times_seen(room, room)
    most = seen_by_most(room, room)[1]
    return tuple([cell for cell in room if many[cell] == most])


def hooks(k):
    """Return a room that needs just k stalls: bars one above another, joined by one cell at their ends by turns."""
    bars = [(x, 2 * j) for x in range(5) for j in range(2 * k)]
    return lot_of(bars + [(4 - j % 2 * 4, 2 * j + 1) for j in range(2 * k - 1)])
