"""Rooms cut by a line, rooms put beside and above one another, and what is told of their numbers."""

from nodetour.rooms import box_of, is_room, pieces, shifted, table_of, united
from nodetour.stalls import fewest


def cut_at(room, way, c):
    """Return the ascending tuple of the rooms that are left of a room if no step leads over a line.

    way is "x" or "y"; what is below c there is cut from what is not.
    """
    axis = 0 if way == "x" else 1
    below = tuple([cell for cell in room if cell[axis] < c])
    beyond = tuple([cell for cell in room if cell[axis] >= c])
    return tuple(sorted(pieces(below) + pieces(beyond)))


def cut_bounds(room, way, c):
    """Return the greatest number of the rooms that are left behind a cut, and all of them together."""
    numbers = [fewest(part, part) for part in cut_at(room, way, c)]
    return (max(numbers), sum(numbers))


def put_beside(one, other, dy):
    """Return the room of one and of the other, moved to the right of it and dy upwards; None if that is none."""
    return room_of_both(one, moved_beside(one, other, dy))


def moved_beside(one, other, dy):
    """Return the other room moved just to the right of one, its least y dy more than that of one."""
    here, there = box_of(one), box_of(other)
    return shifted(other, here[2] + 1 - there[0], here[1] + dy - there[1])


def room_of_both(one, other):
    """Return the room of the cells of both, None if that is none."""
    both = united(one, other)
    return both if is_room(both) else None


def put_above(one, other, dx):
    """Return the room of one and of the other, moved above it and dx to the right; None if that is none."""
    here, there = box_of(one), box_of(other)
    return room_of_both(one, shifted(other, here[0] + dx - there[0], here[3] + 1 - there[1]))


def gate(one, other, dy):
    """Return the lot of the cells of one that have a side neighbour in the other, put beside it."""
    moved = table_of(moved_beside(one, other, dy))
    # All of the other one is to the right of all of one.
    return tuple([(x, y) for x, y in one if (x + 1, y) in moved])
