"""Texts of lots, plans, cells, weights, joins and ways, written and read."""

from nodetour.errors import BadText
from nodetour.rooms import box_of, lot_of
from nodetour.scan import items_of, need_text, numbers_at, past, past_end, signs_among


def lot_text(lot):
    """Return the text of a lot."""
    if lot == ():
        return "empty"
    return picture(lot, {cell: "#" for cell in lot})


def read_lot(text):
    """Return the lot that is written so; BadText(place) for all else."""
    need_text(text)
    if text.startswith("e"):
        past_end(text, past(text, 0, "empty"))
        return ()
    return lot_of(list(marks_in(text, ".#")))


def plan_text(room, stalls, spots):
    """Return the text of a plan: a room with stalls and spots."""
    marks = {cell: "#" for cell in room}
    for cell in stalls:
        marks[cell] = "o"
    for cell in spots:
        marks[cell] = "*" if marks[cell] == "o" else "x"
    return picture(room, marks)


def read_plan(text):
    """Return the triple (room, stalls, spots) that is written so; BadText(place) for all else."""
    need_text(text)
    marks = marks_in(text, ".#ox*")
    stalls = lot_of([cell for cell in marks if marks[cell] in "o*"])
    spots = lot_of([cell for cell in marks if marks[cell] in "x*"])
    return (lot_of(list(marks)), stalls, spots)


def picture(lot, marks):
    """Return the text of a lot, not (), with the sign that marks has for each of its cells."""
    x0, y0, x1, y1 = box_of(lot)
    lines = [f"at {x0} {y0}"]
    for y in reversed(range(y0, y1 + 1)):
        lines.append("".join([marks.get((x, y), ".") for x in range(x0, x1 + 1)]))
    return "\n".join(lines)


def marks_in(text, signs):
    """Return a dict with the signs of the cells of a picture that are not white."""
    (x0, y0), at = numbers_at(text, 0, "at z z\n")
    lines = text[at:].split("\n")
    need_lines(lines, at, signs)
    need_rim(lines)
    y1 = y0 + len(lines) - 1
    marks = {}
    for j, line in enumerate(lines):
        for i, sign in enumerate(line):
            if sign != ".":
                marks[(x0 + i, y1 - j)] = sign
    return marks


def need_lines(lines, at, signs):
    """Raise BadText if the lines, the first one at this place, are not of these signs and equally long."""
    # Of an empty first line one sign at least is missing.
    width = max(1, len(lines[0]))
    for line in lines:
        good = signs_among(line[:width], signs)
        if good < width or len(line) > width:
            raise BadText(at + good)
        at += width + 1


def need_rim(lines):
    """Raise BadText(0) if the first or last line or column is white."""
    left = "".join([line[0] for line in lines])
    right = "".join([line[-1] for line in lines])
    for edge in (lines[0], lines[-1], left, right):
        if edge.strip(".") == "":
            raise BadText(0)


def cells_text(cells):
    """Return the text of a tuple of cells."""
    return items_text([f"{x},{y}" for x, y in cells])


def read_cells(text):
    """Return the tuple of cells that is written so; BadText(place) for all else."""
    return tuple([(x, y) for x, y in items_of(text, "z,z")])


def weights_text(pairs):
    """Return the text of a tuple of pairs of a cell and an integer from 0 on."""
    return items_text([f"{x},{y}:{weight}" for (x, y), weight in pairs])


def read_weights(text):
    """Return the tuple of pairs of a cell and an integer that is written so; BadText(place) for all else."""
    return tuple([((x, y), weight) for x, y, weight in items_of(text, "z,z:n")])


def joins_text(joins):
    """Return the text of a tuple of pairs of cells."""
    return items_text([f"{x},{y}+{u},{v}" for (x, y), (u, v) in joins])


def read_joins(text):
    """Return the tuple of pairs of cells that is written so; BadText(place) for all else."""
    return tuple([((x, y), (u, v)) for x, y, u, v in items_of(text, "z,z+z,z")])


def items_text(items):
    """Return the items in one line, "-" if there are none."""
    if items == []:
        return "-"
    return " ".join(items)


def read_way(text):
    """Return the text if it is made of the signs of steps alone; BadText(place) for all else."""
    need_text(text)
    good = signs_among(text, "rlud")
    past_end(text, good)
    return text
