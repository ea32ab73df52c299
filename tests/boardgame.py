"""Boards by the plain list of the deeds done, for the tests of boards, houses and desks."""

from tests import reckon, tries

WORDS = ("open", "wall", "set", "take")


def room_and_stalls(first, log):
    """Return the set of the cells of the room and that of the stalls behind all deeds of a log."""
    room, stalls = set(first), set()
    for word, cell in log:
        if word == "open":
            room.add(cell)
        if word == "wall":
            room.remove(cell)
        if word == "set":
            stalls.add(cell)
        if word == "take":
            stalls.remove(cell)
    return room, stalls


def is_deed(first, log, word, cell):
    """Return whether a word with a cell is a deed behind a log."""
    room, stalls = room_and_stalls(first, log)
    if word == "open":
        return cell not in room and tries.is_room(room | {cell})
    if word == "wall":
        return cell in room and cell not in stalls and len(room) > 1 and tries.is_room(room - {cell})
    return cell in (room - stalls if word == "set" else stalls)


def board_of(first, log, back):
    """Return the board that stands behind a log."""
    room, stalls = room_and_stalls(first, log)
    return {"room": tuple(sorted(room)), "stalls": tuple(sorted(stalls)), "first": first, "log": tuple(log),
            "back": tuple(back)}


def dark_of(board):
    """Return the lot of the cells that no stall of a board serves."""
    return tuple(cell for cell in board["room"] if not reckon.serve(board["room"], board["stalls"], (cell,)))


def idle_of(board):
    """Return the stalls each of which could go by itself with nothing dark that is not so now."""
    stalls, dark = board["stalls"], dark_of(board)
    return tuple(stall for stall in stalls
                 if dark_of(dict(board, stalls=tuple(other for other in stalls if other != stall))) == dark)


def cells_around(room):
    """Return the list of the cells of a room and those around it, two cells far, ascending."""
    xs, ys = [x for x, y in room], [y for x, y in room]
    return [(x, y) for x in range(min(xs) - 2, max(xs) + 3) for y in range(min(ys) - 2, max(ys) + 3)]


def drawn_deed(chance, first, log):
    """Return a deed, for the most part one that can be done behind a log."""
    room, stalls = room_and_stalls(first, log)
    for _ in range(20):
        word = chance.choice(WORDS + ("open", "set"))
        cells = stalls if word == "take" and stalls else cells_around(room) if word == "open" else room
        cell = chance.choice(sorted(cells))
        if is_deed(first, log, word, cell) or chance.randrange(20) == 0:
            return (word, cell)
    return (word, cell)
