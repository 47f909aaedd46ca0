"""The fewest single ways to be lifted so that all cells reach each other, and the heights of cells that show it.

A lot that no way leaves must be entered by a lifted way; it is tight if it is by just one. Where no tight lot has some
cell without another one, lifted ways may be exchanged from the latter to the former for nothing."""

from nobodymeets.basics import shortest_row, steps_from, steps_from_any
from nobodymeets.halls import Hall
from nobodymeets.streets import is_strong_hall

# From where rows begin that may begin in any cell of a lot.
LOT_BEGIN = -1


def with_opposites(hall, ways):
    """A hall with the opposites of some single ways."""
    return Hall(hall.kinds, hall.ways + tuple([(other, one) for one, other in ways]), hall.places)


def needed_ways(hall, lifted):
    """Those of lifted ways that are left when each one that can be missed is taken out, one after another."""
    left = list(lifted)
    for way in lifted:
        fewer = [other for other in left if other != way]
        if is_strong_hall(with_opposites(hall, fewer)):
            left = fewer
    return left


def fewest_lifted(hall, ways):
    """(Some fewest of the single ways to be lifted in a hall that hangs together, heights of cells that show it)."""
    lifted = needed_ways(hall, ways)
    while True:
        prices = exchange_prices(hall, lifted)
        ring = cheapest_ring(hall.cells, prices)
        if ring is None:
            return lifted, heights_by(hall.cells, prices)
        lifted = needed_ways(hall, exchanged_ways(prices, lifted, ring))


def exchange_prices(hall, lifted):
    """By pairs of cells what it costs to go on from the one to the other: 1 for a way that is lifted then, 0 where an
    exchange is for nothing, -1 back along a way that is not lifted any more."""
    prices = {way: 1 for way in hall.ways}
    for one in range(hall.cells):
        for other in range(hall.cells):
            if one != other and outer_cells(hall, lifted, [other], one) is None:
                prices[(one, other)] = 0
    for one, other in lifted:
        prices[(other, one)] = -1
    return prices


def outer_cells(hall, lifted, lot, cell):
    """The fewest cells with a cell without which all others are a tight lot that has another lot in it; None if each
    tight lot with that in it has the cell, too.

    A row is led from the lot to the cell, along ways and back along lifted ones, each of these once. If then another
    one can be led, no tight lot parts them; else those are told from which the cell could still be come to."""
    graph = {one: {near: True for near in row} for one, row in enumerate(hall.followers)}
    if cell in steps_from_any(graph, lot):
        return None
    for one, other in lifted:
        graph[other][one] = True
    graph[LOT_BEGIN] = {one: True for one in lot}
    row = shortest_row(graph, LOT_BEGIN, cell)[1:]
    for one, other in zip(row, row[1:]):
        if other not in hall.followers[one]:
            del graph[one][other]
        graph[other][one] = True
    if cell in steps_from(graph, LOT_BEGIN):
        return None
    turned = {one: [] for one in graph}
    for one, others in graph.items():
        for other in others:
            turned[other].append(one)
    return list(steps_from(turned, cell))


def cheapest_ring(cells, prices):
    """The cheapest of those rings of so many cells that cost less than nothing and have the fewest cells, or None.

    No part of it is such a ring, so all its exchanges can be done at once."""
    rows = {(cell, cell): (0, [cell]) for cell in range(cells)}
    for _ in range(cells):
        longer = {}
        for (begin, one), (price, row) in rows.items():
            for other in range(cells):
                if (one, other) in prices:
                    more = price + prices[(one, other)]
                    if (begin, other) not in longer or more < longer[(begin, other)][0]:
                        longer[(begin, other)] = (more, row + [other])
        rings = [longer[(cell, cell)] for cell in range(cells) if (cell, cell) in longer]
        if len(rings) > 0 and min(rings)[0] < 0:
            return min(rings)[1]
        rows = longer
    return None


def exchanged_ways(prices, lifted, ring):
    """The lifted ways behind the exchanges of a ring."""
    steps = list(zip(ring, ring[1:]))
    less = [(other, one) for one, other in steps if prices[(one, other)] == -1]
    more = [step for step in steps if prices[step] == 1 and step not in lifted]
    return [way for way in lifted if way not in less] + more


def heights_by(cells, prices):
    """For each of so many cells a number, such that along each pair they rise by no more than its price."""
    heights = [0] * cells
    changed = True
    while changed:
        changed = False
        for (one, other), price in prices.items():
            if heights[other] > heights[one] + price:
                heights[other] = heights[one] + price
                changed = True
    least = min(heights)
    return [height - least for height in heights]


def lots_above(hall, lifted, level):
    """The tight lots into which a level, all cells from a height on, falls apart: each way into it enters one of them.

    What hangs together in the level is parted from each cell below; parts that share a cell are one."""
    parts = []
    left = pieces_in(hall, level)
    while len(left) > 0:
        lot = left.pop()
        outers = outer_lots(hall, lifted, lot, [cell for cell in range(hall.cells) if cell not in level])
        part = [cell for cell in range(hall.cells) if not any([cell in outer for outer in outers])]
        touched = [cells for cells, _ in parts if any([cell in part for cell in cells])]
        if len(touched) == 0:
            parts.append((part, outers))
        else:
            parts = [told for told in parts if told[0] not in touched]
            left.append(list({cell: True for cells in touched + [part] for cell in cells}))
    return [tuple([cell for cell in range(hall.cells) if cell not in outer]) for _, outers in parts for outer in outers]


def pieces_in(hall, level):
    """The lots of a level's cells that hang together in it."""
    graph = {cell: [near for near in hall.neighbours[cell] if near in level] for cell in level}
    pieces = []
    for cell in level:
        if not any([cell in piece for piece in pieces]):
            pieces.append(list(steps_from(graph, cell)))
    return pieces


def outer_lots(hall, lifted, lot, below):
    """Lots of cells, no cell in two, with all that are below, without each of which all others are a tight lot with a
    lot in it."""
    outers = []
    for cell in below:
        outer = outer_cells(hall, lifted, lot, cell)
        joined = [other for other in outers if any([one in outer for one in other])]
        outers = [other for other in outers if other not in joined]
        outers.append(list({one: True for other in joined + [outer] for one in other}))
    return outers
