"""Blocks of a hall's ties: ties that are on rings with each other, and the forest that blocks and cells are."""

from nobodymeets.basics import is_number, is_sequence, shortest_row
from nobodymeets.errors import InvalidBlocks, Refused
from nobodymeets.halls import need_hall


def tie_of(one, other):
    """The tie of two cells, the lesser one first."""
    return (min(one, other), max(one, other))


def is_new_pair(one, other):
    """Whether two values are unlike numbers."""
    return is_number(one) and is_number(other) and one != other


def tie_blocks(hall):
    """All blocks of a hall, ascending, by one walk that looks at each tie twice."""
    need_hall(hall)
    return graph_blocks({cell: list(row) for cell, row in enumerate(hall.neighbours)})


def graph_blocks(graph):
    """All blocks, ascending, of a graph that tells the cells tied to each."""
    numbers = {}
    blocks = []
    for cell in graph:
        if cell not in numbers:
            blocks.extend(walked_blocks(graph, cell, numbers))
    return tuple(sorted(blocks))


def walked_blocks(graph, begin, numbers):
    """The blocks of all that hangs together with a cell; numbers tells when each cell was come to first.

    The walk goes on to a new cell where it can, else back. If from a cell, and all come to behind it, no tie
    leads farther back than to the cell ahead of it, what was walked since then is a block."""
    numbers[begin] = len(numbers)
    farthest = {begin: numbers[begin]}
    path = [begin]
    looked = {begin: 0}
    ties = []
    marks = {}
    blocks = []
    while len(path) > 0:
        cell = path[-1]
        if looked[cell] < len(graph[cell]):
            other = graph[cell][looked[cell]]
            looked[cell] += 1
            if other not in numbers:
                numbers[other] = len(numbers)
                farthest[other] = numbers[other]
                looked[other] = 0
                marks[other] = len(ties)
                path.append(other)
                ties.append(tie_of(cell, other))
            elif numbers[other] < numbers[cell] and other != path[-2]:
                farthest[cell] = min(farthest[cell], numbers[other])
                ties.append(tie_of(cell, other))
        else:
            path.pop()
            if len(path) > 0:
                farthest[path[-1]] = min(farthest[path[-1]], farthest[cell])
                if farthest[cell] >= numbers[path[-1]]:
                    blocks.append(tuple(sorted(ties[marks[cell]:])))
                    del ties[marks[cell]:]
    return blocks


def plain_blocks(hall):
    """All blocks of a hall, ascending, ring by ring: each tie is put into a forest, or closes a ring in it."""
    need_hall(hall)
    forest = {cell: [] for cell in range(hall.cells)}
    lots = {}
    for one, other in [(cell, near) for cell in range(hall.cells) for near in hall.neighbours[cell] if cell < near]:
        row = shortest_row(forest, one, other)
        if row is None:
            forest[one].append(other)
            forest[other].append(one)
            lots[(one, other)] = [(one, other)]
        else:
            lots = joined_lots(lots, (one, other), {tie: True for tie in ties_along(row)})
    return tuple(sorted([tuple(sorted(lot)) for lot in lots.values()]))


def ties_along(row):
    """The ties of a row of cells."""
    return [tie_of(one, other) for one, other in zip(row, row[1:])]


def joined_lots(lots, closing, ring):
    """Lots of ties, by one tie of each, when all with a tie of a ring are one lot, with the tie that closes it."""
    left = {}
    joined = [closing]
    for name, lot in lots.items():
        if any([tie in ring for tie in lot]):
            joined.extend(lot)
        else:
            left[name] = lot
    left[closing] = joined
    return left


def need_blocks(blocks):
    """Any value as all blocks of their ties, ascending, in tuples."""
    if not is_sequence(blocks) or not all([are_ties(block) for block in blocks]):
        raise InvalidBlocks(-1)
    told = tuple(sorted([tuple([tuple(tie) for tie in block]) for block in blocks]))
    if told != blocks_of(ties_in(told)):
        raise InvalidBlocks(-1)
    return told


def are_ties(value):
    """Whether a value is a sequence of ties."""
    return is_sequence(value) and all([is_tie(tie) for tie in value])


def is_tie(value):
    """Whether a value is a pair of numbers, the lesser one first."""
    if not is_sequence(value) or len(value) != 2:
        return False
    return is_number(value[0]) and is_number(value[1]) and value[0] < value[1]


def ties_in(blocks):
    """The ties of all blocks."""
    return [tie for block in blocks for tie in block]


def blocks_of(ties):
    """All blocks of some ties, ascending."""
    return graph_blocks(tied_graph(ties))


def tied_graph(ties):
    """The cells tied to each that has a tie."""
    rows = {}
    for one, other in ties:
        rows.setdefault(one, {})[other] = True
        rows.setdefault(other, {})[one] = True
    return {cell: list(row) for cell, row in rows.items()}


def block_tree(blocks):
    """(The cells in two blocks or more, the pairs of a block's number and such a cell in it), both ascending."""
    numbers = {}
    for number, block in enumerate(need_blocks(blocks)):
        for cell in cells_in(block):
            numbers.setdefault(cell, []).append(number)
    shared = [cell for cell, row in numbers.items() if len(row) > 1]
    pairs = [(number, cell) for cell in shared for number in numbers[cell]]
    return (tuple(sorted(shared)), tuple(sorted(pairs)))


def cells_in(block):
    """The cells of a block's ties, each once."""
    return list({cell: True for tie in block for cell in tie})


def blocks_between(blocks, one, other):
    """The numbers of the blocks that any row of unlike cells between two goes along, or None if there is none."""
    told = need_blocks(blocks)
    if not is_new_pair(one, other):
        raise Refused(-1)
    return numbers_between(told, one, other)


def numbers_between(told, one, other):
    """The numbers of the blocks, ascending in tuples, between two cells, or None; some row tells them all."""
    graph = tied_graph(ties_in(told))
    row = shortest_row(graph, one, other) if one in graph else None
    if row is None:
        return None
    along = ties_along(row)
    return tuple([number for number, block in enumerate(told) if any([tie in block for tie in along])])


def joined_blocks(blocks, one, other):
    """The blocks with a tie more: it makes one block of those between its cells."""
    told = need_blocks(blocks)
    if not is_new_pair(one, other) or tie_of(one, other) in ties_in(told):
        raise Refused(-1)
    between = numbers_between(told, one, other)
    numbers = () if between is None else between
    joined = [tie_of(one, other)] + ties_in([told[number] for number in numbers])
    left = [block for number, block in enumerate(told) if number not in numbers]
    return tuple(sorted(left + [tuple(sorted(joined))]))


def split_blocks(blocks, one, other):
    """The blocks with a tie less: only its own falls apart."""
    told = need_blocks(blocks)
    if not is_new_pair(one, other) or tie_of(one, other) not in ties_in(told):
        raise Refused(-1)
    parts = []
    for block in told:
        if tie_of(one, other) in block:
            parts.extend(list(blocks_of([tie for tie in block if tie != tie_of(one, other)])))
        else:
            parts.append(block)
    return tuple(sorted(parts))
