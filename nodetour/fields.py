"""What stalls serve: fields, common stalls, spots that are like or harder, cells that are lit or dark."""

from nodetour.masks import all_of, chosen, mask_of
from nodetour.rooms import is_lot, lot_of, reached, shared, table_of, taken_out

CORNERS = ((1, 1), (-1, 1), (-1, -1), (1, -1))


def field(room, stall):
    """Return the lot of all cells that a stall serves."""
    return all_cells_of(corner_fields(room, stall))


def all_cells_of(lots):
    """Return the lot of the cells that are in one or more of the lots."""
    cells = []
    for lot in lots:
        cells.extend(lot)
    return lot_of(cells)


def corner_fields(room, stall):
    """Return the four parts of a field: those to the right and up, left and up, left and down, right and down."""
    table = table_of(room)
    return tuple([corner_field(table, stall, dx, dy) for dx, dy in CORNERS])


def corner_field(table, stall, dx, dy):
    """Return the lot of the cells of a table to which steps by dx sidewards or dy upwards lead."""
    return reached(stall, table, lambda cell: ((cell[0] + dx, cell[1]), (cell[0], cell[1] + dy)))


def all_fields(room):
    """Return the tuple of the pairs of a cell and its field, of all cells of a room."""
    return tuple([(stall, field(room, stall)) for stall in room])


def field_masks(room, cells):
    """Return a dict with the mask of the field of each of these cells, among the cells of the room."""
    return {cell: mask_of(room, field(room, cell)) for cell in cells}


def common_stalls(room, lot):
    """Return the lot of the stalls that serve all of a lot."""
    common = all_of(room)
    for mask in field_masks(room, lot).values():
        common &= mask
    return chosen(room, common)


def are_tied(room, one, other):
    """Return whether two spots have a common stall."""
    return shared(field(room, one), field(room, other)) != ()


def least_pair(room, lot, tied):
    """Return the least pair of spots of a lot that are tied, or that are apart, as is asked; None without one."""
    masks = field_masks(room, lot)
    for k, one in enumerate(lot):
        for other in lot[k + 1:]:
            if (masks[one] & masks[other] != 0) == tied:
                return (one, other)
    return None


def tied_to(room, spot):
    """Return the lot of the spots that are tied to a spot."""
    return lit(room, field(room, spot))


def center(room):
    """Return the lot of the stalls that serve the whole room."""
    return common_stalls(room, room)


def like_lots(room):
    """Return the ascending tuple of the lots of cells whose fields are equal."""
    masks = field_masks(room, room)
    lots = {}
    for cell in room:
        lots.setdefault(masks[cell], []).append(cell)
    return tuple([tuple(cells) for cells in lots.values()])


def hard_spots(room):
    """Return the lot of the least cells of the lots of like spots than which none is harder."""
    return hard_in(room, room)


def hard_in(room, lot):
    """Return the lot of the spots of a lot than which none of it is harder, of like ones the least."""
    firsts = least_by_mask(field_masks(room, lot))
    return tuple([firsts[mask] for mask in firsts if not has_part_of(firsts, mask)])


def good_stalls(room):
    """Return the lot of the least cells of the lots of like ones whose field lies in no field that has more."""
    firsts = least_by_mask(field_masks(room, room))
    return tuple([firsts[mask] for mask in firsts if not has_whole_of(firsts, mask)])


def least_by_mask(masks):
    """Return a dict with the first cell for each mask, of a dict with the masks of ascending cells."""
    firsts = {}
    for cell in masks:
        firsts.setdefault(masks[cell], cell)
    return firsts


def has_part_of(masks, mask):
    """Return whether one of the masks means some of what this one does, not all of it, and nothing else."""
    for part in masks:
        if part & mask == part and part != mask:
            return True
    return False


def has_whole_of(masks, mask):
    """Return whether one of the masks means all that this one does, and more."""
    for whole in masks:
        if whole & mask == mask and whole != mask:
            return True
    return False


def lit(room, stalls):
    """Return the lot of the cells that some of the stalls serves."""
    return all_cells_of([field(room, stall) for stall in stalls])


def dark_in(room, lot, stalls):
    """Return the lot of the spots of a lot that none of the stalls serves."""
    return taken_out(lot, lit(room, stalls))


def serve_all(room, lot, stalls):
    """Return whether the stalls serve all of a lot."""
    return dark_in(room, lot, stalls) == ()


def times_seen(room, lot):
    """Return a dict with the number of spots of a lot that each cell of the room serves."""
    many = {cell: 0 for cell in room}
    for spot in lot:
        for cell in field(room, spot):
            many[cell] += 1
    return many


def seen_by_most(room, lot):
    """Return the least stall of those that serve the most spots of a lot, and how many."""
    many = times_seen(room, lot)
    most = max(list(many.values()))
    firsts = [cell for cell in room if many[cell] == most]
    return (firsts[0], most)


def alone_served(room, stalls):
    """Return the list, for each stall, of the lot of the cells that it serves and none of the others does."""
    many = times_seen(room, stalls)
    return [tuple([cell for cell in field(room, stall) if many[cell] == 1]) for stall in stalls]


def judge_field(room, stall, value):
    """Return None if any value is the field of a stall, else its first fault."""
    if not is_lot(value):
        return ("form",)
    served = field(room, stall)
    faults = (("wall", taken_out(value, room)), ("detour", taken_out(value, served)),
              ("lacks", taken_out(served, value)))
    for word, cells in faults:
        if cells:
            return (word, cells[0])
    return None


def judge_common(room, lot, value):
    """Return None if any value is the lot of the common stalls of a lot, else its first fault."""
    if not is_lot(value):
        return ("form",)
    walls = taken_out(value, room)
    if walls:
        return ("wall", walls[0])
    common = common_stalls(room, lot)
    wrong = taken_out(value, common)
    if wrong:
        return ("not", wrong[0], dark_in(room, lot, [wrong[0]])[0])
    lacking = taken_out(common, value)
    if lacking:
        return ("lacks", lacking[0])
    return None


def gained(room, one, other):
    """Return the lots of what the first cell serves and the second does not, and the other way round."""
    here, there = field(room, one), field(room, other)
    return (taken_out(here, there), taken_out(there, here))


def walk_lit(room, cells):
    """Return the list of the sizes of the fields of the cells."""
    return [len(field(room, cell)) for cell in cells]
