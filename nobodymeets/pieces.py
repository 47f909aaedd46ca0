"""Pieces of a hall: what hangs together by ties, what parts it, and which cells reach each other by ways."""

from nobodymeets.basics import is_index, is_lot, shortest_row, steps_from, turn_shortest_row
from nobodymeets.errors import Refused
from nobodymeets.halls import need_cell, need_hall


def need_two(hall, one, other):
    """Refuses whatever is no hall with two of its cells, perhaps alike."""
    need_hall(hall)
    need_cell(hall, one, 0)
    need_cell(hall, other, 1)


def lot_from(graph, cell):
    """All cells to which a graph leads from a cell, itself too, ascending."""
    return tuple(sorted(list(steps_from(graph, cell))))


def together_paper(hall, one, other):
    """A shortest row of tied cells from the one to the other, or all that hang together with the one."""
    need_two(hall, one, other)
    row = shortest_row(hall.neighbours, one, other)
    if row is None:
        return ("lot", lot_from(hall.neighbours, one))
    return ("way", tuple(row))


def together_holds(hall, one, other, value):
    """Whether any value is a row of unlike tied cells, or a lot with the one that no tie leaves."""
    need_two(hall, one, other)
    if not isinstance(value, tuple) or len(value) != 2:
        return False
    if value[0] == "way":
        return is_row(hall, value[1]) and value[1][0] == one and value[1][-1] == other
    return value[0] == "lot" and is_side(hall.neighbours, one, other, value[1])


def is_row(hall, value):
    """Whether any value is a tuple of one or more unlike cells, each tied to the next one."""
    if not isinstance(value, tuple) or len(value) == 0:
        return False
    if not all([is_index(cell, hall.cells) for cell in value]):
        return False
    if len({cell: True for cell in value}) != len(value):
        return False
    return all([cell in hall.neighbours[ahead] for ahead, cell in zip(value, value[1:])])


def is_side(graph, one, other, value):
    """Whether any value is a lot of cells with the one, without the other, which a graph does not leave."""
    if not is_lot(value, len(graph)) or one not in value or other in value:
        return False
    return all([near in value for cell in value for near in graph[cell]])


def all_pieces(hall):
    """The lots of cells that hang together, ascending."""
    need_hall(hall)
    found = {}
    lots = []
    for cell in range(hall.cells):
        if cell not in found:
            lot = lot_from(hall.neighbours, cell)
            found.update({other: True for other in lot})
            lots.append(lot)
    return tuple(lots)


def parting_cells(hall, one, other):
    """The cells through which each row of tied cells between two others goes, ascending."""
    need_two(hall, one, other)
    if not do_hang_together(hall, one, other):
        return ()
    return tuple([cell for cell in range(hall.cells) if does_part(hall, cell, one, other)])


def do_hang_together(hall, one, other):
    """Whether there is a row of tied cells between two cells."""
    return other in steps_from(hall.neighbours, one)


def does_part(hall, cell, one, other):
    """Whether a cell parts two others that hang together."""
    return cell not in (one, other) and other not in steps_from(without_cell(hall.neighbours, cell), one)


def without_cell(graph, cell):
    """A graph of cells in which nothing leads to or from a cell."""
    rows = [tuple([other for other in row if other != cell]) for row in graph]
    rows[cell] = ()
    return tuple(rows)


def without_tie(graph, one, other):
    """A graph of cells without a tie."""
    rows = list(graph)
    rows[one] = tuple([cell for cell in rows[one] if cell != other])
    rows[other] = tuple([cell for cell in rows[other] if cell != one])
    return tuple(rows)


def parts_paper(hall, one, other):
    """What there is of four: two unlike cells are apart, or a cell parts them, or their tie alone is
    between them, or some ring goes through both."""
    need_two(hall, one, other)
    if one == other:
        raise Refused(-1)
    lot = lot_from(hall.neighbours, one)
    if other not in lot:
        return ("apart", lot)
    cells = parting_cells(hall, one, other)
    if len(cells) > 0:
        return ("cell", cells[0], lot_from(without_cell(hall.neighbours, cells[0]), one))
    lot = lot_from(without_tie(hall.neighbours, one, other), one)
    if other not in lot:
        return ("tie", lot)
    return ("ring", ring_through(hall, one, other))


def ring_through(hall, one, other):
    """Some ring through two cells that no cell parts and that more than their tie holds together.

    Two rows are put in, one after the other; no cell between their ends is gone through twice."""
    graph = door_graph(hall, one, other)
    for _ in range(2):
        turn_shortest_row(graph, (one, 1), (other, 0))
    used = [(cell, near) for cell in range(hall.cells) for near in hall.neighbours[cell]
            if (cell, 1) in graph[(near, 0)]]
    there, back = [row_along(used, near, other) for cell, near in used if cell == one]
    return (one,) + there + back[-2::-1]


def door_graph(hall, one, other):
    """To which doors ties lead from each: (cell, 0) leads into a cell, (cell, 1) out of it.

    Rows begin behind the one and end ahead of the other, so nothing leads through these two."""
    graph = {}
    for cell in range(hall.cells):
        graph[(cell, 0)] = {} if cell in (one, other) else {(cell, 1): True}
        graph[(cell, 1)] = {(near, 0): True for near in hall.neighbours[cell]}
    return graph


def row_along(used, cell, goal):
    """The row of cells from a cell to a goal along used ties, one out of each cell."""
    followers = {one: other for one, other in used}
    row = [cell]
    while row[-1] != goal:
        row.append(followers[row[-1]])
    return tuple(row)


def parts_holds(hall, one, other, value):
    """Whether any value is a paper that parts_paper may tell."""
    need_two(hall, one, other)
    if one == other or not isinstance(value, tuple):
        return False
    if len(value) == 3:
        return value[0] == "cell" and is_parting(hall, one, other, value[1], value[2])
    if len(value) != 2:
        return False
    if value[0] == "apart":
        return is_side(hall.neighbours, one, other, value[1])
    if value[0] == "tie":
        left = without_tie(hall.neighbours, one, other)
        return other in hall.neighbours[one] and is_side(left, one, other, value[1])
    return value[0] == "ring" and is_ring_through(hall, one, other, value[1])


def is_parting(hall, one, other, cell, lot):
    """Whether any values are a cell that parts two, and a lot with the one that ties leave for that cell alone."""
    if not is_index(cell, hall.cells) or cell in (one, other) or not do_hang_together(hall, one, other):
        return False
    return is_side(without_cell(hall.neighbours, cell), one, other, lot) and cell not in lot


def is_ring_through(hall, one, other, value):
    """Whether any value is three or more unlike cells with these two, each tied to the next, the last to the first."""
    if not is_row(hall, value) or len(value) < 3 or one not in value or other not in value:
        return False
    return value[0] in hall.neighbours[value[-1]]


def reached_cells(hall, cell):
    """The cells to which one can go by ways from a cell, itself too, ascending."""
    need_hall(hall)
    need_cell(hall, cell, -1)
    return lot_from(hall.followers, cell)


def strong_pieces(hall):
    """The lots of cells that reach each other; at each place the first of those that no other one left reaches."""
    need_hall(hall)
    reached = [steps_from(hall.followers, cell) for cell in range(hall.cells)]
    left = strong_lots(reached)
    lots = []
    while len(left) > 0:
        lot = first_unreached(reached, left)
        lots.append(lot)
        left = [other for other in left if other != lot]
    return tuple(lots)


def strong_lots(reached):
    """The lots of cells that reach each other, ascending."""
    found = {}
    lots = []
    for cell in range(len(reached)):
        if cell not in found:
            lot = tuple(sorted([other for other in reached[cell] if cell in reached[other]]))
            found.update({other: True for other in lot})
            lots.append(lot)
    return lots


def first_unreached(reached, lots):
    """The first of some lots that none of the others reaches; as rings of lots are one lot, there always is one."""
    for lot in lots:
        if not any([lot[0] in reached[other[0]] for other in lots if other != lot]):
            return lot
    return None
