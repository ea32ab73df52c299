"""Boards of rooms: deeds done, taken back and done again, and what a board shows."""

from nodetour.errors import BadDeed, NothingDone
from nodetour.fields import alone_served, dark_in
from nodetour.kinds import is_pair
from nodetour.rooms import is_cell, is_room, lot_of, side_cells, taken_out, united
from nodetour.stalls import answer_for


def new_board(room):
    """Return the board with a room and no stalls."""
    return {"room": room, "stalls": (), "first": room, "log": (), "back": ()}


def is_deed(board, value):
    """Return whether any value is a deed for a board."""
    if not is_pair(value) or not is_cell(value[1]):
        return False
    room, stalls = board["room"], board["stalls"]
    word, cell = value
    if word == "open":
        return cell not in room and is_room(united(room, (cell,)))
    if word == "wall":
        return cell in room and cell not in stalls and is_room(taken_out(room, (cell,)))
    if word == "set":
        return cell in room and cell not in stalls
    return word == "take" and cell in stalls


def done(board, deed):
    """Return the board behind a deed; BadDeed() for what is none."""
    if not is_deed(board, deed):
        raise BadDeed()
    return behind(board, deed, ())


def behind(board, deed, back):
    """Return the board behind a deed, with what may be done again then."""
    word, cell = deed
    room, stalls = board["room"], board["stalls"]
    if word == "open":
        room = united(room, (cell,))
    elif word == "wall":
        room = taken_out(room, (cell,))
    elif word == "set":
        stalls = united(stalls, (cell,))
    else:
        stalls = taken_out(stalls, (cell,))
    return {"room": room, "stalls": stalls, "first": board["first"], "log": board["log"] + (deed,), "back": back}


def undone(board):
    """Return the board ahead of the last deed of its log; NothingDone() if there is none."""
    if board["log"] == ():
        raise NothingDone()
    ahead = boards(board)[-2]
    ahead["back"] = board["back"] + board["log"][-1:]
    return ahead


def redone(board):
    """Return the board behind the deed that was taken back last; NothingDone() if there is none."""
    if board["back"] == ():
        raise NothingDone()
    return behind(board, board["back"][-1], board["back"][:-1])


def boards(board):
    """Return the list of the boards ahead of each deed of the log, and this one, all with nothing to be done again."""
    told = [new_board(board["first"])]
    for deed in board["log"]:
        told.append(behind(told[-1], deed, ()))
    return told


def dark_now(board):
    """Return the lot of the cells of the room that no stall serves."""
    return dark_in(board["room"], board["room"], board["stalls"])


def all_served(board):
    """Return whether each cell of the room is served."""
    return dark_now(board) == ()


def further(board):
    """Return fewest further stalls that serve all dark spots, and as many of these that are apart."""
    return answer_for(board["room"], dark_now(board))


def how_many_further(board):
    """Return how many further stalls at least are needed."""
    return len(further(board)[0])


def idle(board):
    """Return the lot of the stalls each of which could go by itself with no cell dark that is not so now."""
    stalls = board["stalls"]
    return tuple([stall for stall, alone in zip(stalls, alone_served(board["room"], stalls)) if alone == ()])


def openable(board):
    """Return the lot of the cells that can be opened."""
    sides = lot_of([side for cell in board["room"] for side in side_cells(cell)])
    return tuple([cell for cell in sides if is_deed(board, ("open", cell))])


def wallable(board):
    """Return the lot of the cells that can be walled."""
    return tuple([cell for cell in board["room"] if is_deed(board, ("wall", cell))])


def change_by(board, deed):
    """Return by how much more further stalls are needed behind a deed."""
    return how_many_further(done(board, deed)) - how_many_further(board)
