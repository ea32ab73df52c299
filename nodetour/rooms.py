"""Cells, lots of cells and rooms."""


def is_cell(value):
    """Return whether any value is a cell: a pair of integers."""
    if not isinstance(value, tuple) or len(value) != 2:
        return False
    return is_number(value[0]) and is_number(value[1])


def is_number(value):
    """Return whether any value is an integer; True and False are none."""
    return isinstance(value, int) and not isinstance(value, bool)


def is_lot(value):
    """Return whether any value is a lot: an ascending tuple of unlike cells."""
    if not isinstance(value, tuple):
        return False
    for cell in value:
        if not is_cell(cell):
            return False
    for k in range(1, len(value)):
        if value[k] <= value[k - 1]:
            return False
    return True


def lot_of(cells):
    """Return the lot of the cells of a list."""
    return tuple(sorted(set(cells)))


def side_cells(cell):
    """Return the four cells beside a cell."""
    x, y = cell
    return ((x + 1, y), (x, y + 1), (x - 1, y), (x, y - 1))


def near_cells(cell):
    """Return the eight cells around a cell."""
    x, y = cell
    return ((x + 1, y), (x + 1, y + 1), (x, y + 1), (x - 1, y + 1),
            (x - 1, y), (x - 1, y - 1), (x, y - 1), (x + 1, y - 1))


def united(one, other):
    """Return the lot of the cells in one of two lots, or in both."""
    return tuple(sorted(set(one) | set(other)))


def shared(one, other):
    """Return the lot of the cells in both lots."""
    return tuple(sorted(set(one) & set(other)))


def taken_out(one, other):
    """Return the lot of the cells in one lot and not in the other."""
    return tuple(sorted(set(one) - set(other)))


def lies_in(one, other):
    """Return whether each cell of one lot is in the other."""
    return taken_out(one, other) == ()


def table_of(cells):
    """Return a dict with the cells as keys, to look them up quickly."""
    return {cell: True for cell in cells}


def reached(start, table, around):
    """Return the lot of the cells of a table that hang together with start.

    around tells to which cells one comes from a cell: side_cells or near_cells.
    """
    seen = {start}
    waiting = [start]
    while waiting:
        place = waiting.pop()
        for cell in around(place):
            if cell in table and cell not in seen:
                seen.add(cell)
                waiting.append(cell)
    return tuple(sorted(seen))


def parted(lot, around):
    """Return the tuple of the parts of a lot that hang together, ascending."""
    table = table_of(lot)
    seen = set()
    parts = []
    for cell in lot:
        if cell not in seen:
            part = reached(cell, table, around)
            parts.append(part)
            for member in part:
                seen.add(member)
    return tuple(parts)


def pieces(lot):
    """Return the tuple of the pieces of a lot, ascending."""
    return parted(lot, side_cells)


def holes(lot):
    """Return the tuple of the holes of a lot, ascending."""
    closed = []
    # Each hole is closed in by one piece, and a piece has a small box even where the pieces are far apart.
    for piece in pieces(lot):
        closed.extend(closed_in(piece))
    return parted(taken_out(closed, lot), near_cells)


def closed_in(piece):
    """Return the lot of the white cells that one piece closes in by itself."""
    table = table_of(piece)
    x0, y0, x1, y1 = box_of(piece)
    # One cell more on each side, so that what is outside hangs together within the box.
    white = [(x, y) for x in range(x0 - 1, x1 + 2) for y in range(y0 - 1, y1 + 2) if (x, y) not in table]
    return taken_out(white, reached(white[0], table_of(white), near_cells))


def filled(lot):
    """Return the lot with the cells of all its holes."""
    cells = list(lot)
    for hole in holes(lot):
        cells.extend(hole)
    return lot_of(cells)


def judge_room(value):
    """Return None if any value is a room, else its first fault."""
    if not is_lot(value) or value == ():
        return ("form",)
    apart = taken_out(value, reached(value[0], table_of(value), side_cells))
    if apart:
        return ("apart", apart[0])
    enclosed = holes(value)
    if enclosed:
        return ("hole", enclosed[0][0])
    return None


def is_room(value):
    """Return whether any value is a room."""
    return judge_room(value) is None


def box_of(lot):
    """Return the box (x0, y0, x1, y1) of a lot, None for ()."""
    if lot == ():
        return None
    columns = [x for x, y in lot]
    rows = [y for x, y in lot]
    return (min(columns), min(rows), max(columns), max(rows))


def shifted(lot, dx, dy):
    """Return the lot with all cells moved by dx and dy."""
    return tuple([(x + dx, y + dy) for x, y in lot])


def quarter_turned(lot, k):
    """Return the lot turned by k quarters, any integer."""
    return posed(lot, k % 4)


def mirrored(lot):
    """Return the lot with left and right exchanged."""
    return posed(lot, 4)


def posed(lot, t):
    """Return the lot in turn number t, from 0 to 7."""
    return lot_of([posed_cell(cell, t) for cell in lot])


def posed_cell(cell, t):
    """Return the cell to which turn number t leads a cell."""
    x, y = cell
    if t >= 4:
        x = -x
    for _ in range(t % 4):
        x, y = -y, x
    return (x, y)


def at_home(lot):
    """Return the lot shifted so that its box begins with 0, 0."""
    if lot == ():
        return ()
    box = box_of(lot)
    return shifted(lot, -box[0], -box[1])


def least_pose(lot):
    """Return the least of the eight turns of a lot, each at home."""
    return min([at_home(posed(lot, t)) for t in range(8)])


def pose_between(one, other):
    """Return the least (t, dx, dy) that leads one lot to the other, None if none does."""
    home = at_home(other)
    for t in range(8):
        turned = posed(one, t)
        if at_home(turned) == home:
            dx, dy = shift_between(turned, other)
            return (t, dx, dy)
    return None


def shift_between(one, other):
    """Return (dx, dy) by which the first lot is shifted to the second, which is alike."""
    if one == ():
        return (0, 0)
    return (other[0][0] - one[0][0], other[0][1] - one[0][1])


def finer(lot, k):
    """Return the lot in which each cell has become k by k cells."""
    return lot_of([(k * x + i, k * y + j) for x, y in lot for i in range(k) for j in range(k)])


def block_of(cell, k):
    """Return the cell for which a cell of the finer lot stands."""
    return (cell[0] // k, cell[1] // k)


def rows_of(lot):
    """Return the tuple of the greatest stretches from left to right, ascending."""
    return stretches(lot, 1, 0)


def columns_of(lot):
    """Return the tuple of the greatest stretches upwards, ascending."""
    return stretches(lot, 0, 1)


def stretches(lot, dx, dy):
    """Return the tuple of the greatest stretches of a lot by steps of (dx, dy), ascending."""
    table = table_of(lot)
    found = []
    for x, y in lot:
        if (x - dx, y - dy) not in table:
            found.append(stretch_from((x, y), table, dx, dy))
    return tuple(found)


def stretch_from(cell, table, dx, dy):
    """Return the stretch that begins with a cell and goes on by steps of (dx, dy)."""
    x, y = cell
    cells = []
    while (x, y) in table:
        cells.append((x, y))
        x, y = x + dx, y + dy
    return tuple(cells)


def row_of(lot, cell):
    """Return the one of rows_of that has a cell of the lot."""
    return the_one_with(rows_of(lot), cell)


def column_of(lot, cell):
    """Return the one of columns_of that has a cell of the lot."""
    return the_one_with(columns_of(lot), cell)


def the_one_with(lots, cell):
    """Return the first of the lots that has a cell, None if none has."""
    for lot in lots:
        if cell in lot:
            return lot
    return None


def ends_of(lot):
    """Return the lot of the cells that have just one side cell in the lot."""
    table = table_of(lot)
    return tuple([cell for cell in lot if sides_in(cell, table) == 1])


def sides_in(cell, table):
    """Return how many side cells of a cell are in a table."""
    return len([side for side in side_cells(cell) if side in table])


def rim_length(lot):
    """Return how many pairs of a cell of the lot and a white one lie side by side."""
    table = table_of(lot)
    return sum([4 - sides_in(cell, table) for cell in lot])


def counts(lot):
    """Return how many cells, pairs side by side, and squares of two by two a lot has."""
    table = table_of(lot)
    pairs = squares = 0
    for x, y in lot:
        right, above = (x + 1, y) in table, (x, y + 1) in table
        if right:
            pairs += 1
        if above:
            pairs += 1
        if right and above and (x + 1, y + 1) in table:
            squares += 1
    return (len(lot), pairs, squares)
