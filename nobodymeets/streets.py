"""One-way streets: halls whose cells all reach each other, and ways that can be struck without harm to that."""

from nobodymeets.basics import is_index, is_lot, shortest_row, steps_from
from nobodymeets.blocks import graph_blocks, tie_blocks
from nobodymeets.halls import Hall, need_hall
from nobodymeets.pieces import strong_pieces


def strong_paper(hall):
    """Some closed row through all cells of a hall, or some cells, not all, that no way leaves."""
    need_hall(hall)
    lot = unleft_lot(hall)
    if lot is not None:
        return ("lot", lot)
    row = [0]
    for cell in list(range(1, hall.cells)) + [0]:
        row.extend(shortest_row(hall.followers, row[-1], cell)[1:])
    return ("round", tuple(row[:-1] if hall.cells > 1 else row))


def unleft_lot(hall):
    """All cells that are reached from some cell, ascending, if these aren't all; None if there is no such cell."""
    for cell in range(hall.cells):
        reached = steps_from(hall.followers, cell)
        if len(reached) < hall.cells:
            return tuple(sorted(list(reached)))
    return None


def is_strong_hall(hall):
    """Whether all cells of a hall reach each other."""
    need_hall(hall)
    return are_all_reached(hall.followers) and are_all_reached(turned_rows(hall))


def are_all_reached(graph):
    """Whether a graph of cells leads from cell 0 to all."""
    return len(steps_from(graph, 0)) == len(graph)


def turned_rows(hall):
    """For each cell those from which a way leads to it."""
    rows = [[] for _ in range(hall.cells)]
    for one, other in hall.ways:
        rows[other].append(one)
    return rows


def strong_holds(hall, value):
    """Whether any value is a closed row through all cells of a hall, or some cells, not all, that no way leaves."""
    need_hall(hall)
    if not isinstance(value, tuple) or len(value) != 2:
        return False
    if value[0] == "round":
        return is_round(hall, value[1])
    return value[0] == "lot" and is_unleft(hall, value[1])


def is_round(hall, value):
    """Whether any value is cells, all of a hall, from each of which a way goes to the next, from the last to the first.

    In a hall of one cell there are no ways, and the row is that cell."""
    if not isinstance(value, tuple) or not all([is_index(cell, hall.cells) for cell in value]):
        return False
    if len({cell: True for cell in value}) != hall.cells:
        return False
    if hall.cells == 1:
        return len(value) == 1
    return all([after in hall.followers[cell] for cell, after in zip(value, value[1:] + value[:1])])


def is_unleft(hall, value):
    """Whether any value is a lot of one or more cells, not all, that no way leaves."""
    if not is_lot(value, hall.cells) or not 1 <= len(value) < hall.cells:
        return False
    return all([cell in value for one in value for cell in hall.followers[one]])


def hall_bridges(hall):
    """The ties that are on no ring of ties, ascending."""
    return lone_ties(tie_blocks(hall))


def lone_ties(blocks):
    """The ties that are a block alone, of blocks that ascend."""
    return tuple([block[0] for block in blocks if len(block) == 1])


def two_way_ties(hall):
    """The ties with ways either way, ascending."""
    need_hall(hall)
    return tuple([(one, other) for one, other in hall.ways if one < other and one in hall.followers[other]])


def narrow_ties(hall):
    """The two-way ties that are on no ring of ties among the cells that reach each other, ascending."""
    need_hall(hall)
    lots = {cell: lot for lot in strong_pieces(hall) for cell in lot}
    graph = {cell: [near for near in row if near in lots[cell]] for cell, row in enumerate(hall.neighbours)}
    both = two_way_ties(hall)
    return tuple([tie for tie in lone_ties(graph_blocks(graph)) if tie in both])


def thinned_hall(hall):
    """The hall without one way of each two-way tie, where all cells still reach the same cells without it."""
    need_hall(hall)
    struck = struck_ways(hall)
    return Hall(hall.kinds, [way for way in hall.ways if way not in struck], hall.places)


def struck_ways(hall):
    """The ways that are struck in the thinned hall, as keys of a dict."""
    graph = [list(row) for row in hall.followers]
    struck = {}
    for lesser, greater in two_way_ties(hall):
        for one, other in ((greater, lesser), (lesser, greater)):
            # Whoever went this way still goes where it leads, if it can be gone round.
            graph[one].remove(other)
            if other in steps_from(graph, one):
                struck[(one, other)] = True
                break
            graph[one].append(other)
    return struck


def street_hall(hall):
    """The hall without the ways that are struck in the thinned hall of the ways between free cells alone."""
    need_hall(hall)
    free = hall.cells_of("free")
    between = [(one, other) for one, other in hall.ways if one in free and other in free]
    struck = struck_ways(Hall(hall.kinds, between, hall.places))
    return Hall(hall.kinds, [way for way in hall.ways if way not in struck], hall.places)
