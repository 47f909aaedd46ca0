"""Halls by chance and all small ones, and ways in them told straight from the document."""

import itertools

from nobodymeets.halls import Hall

KINDS = ("free", "park", "shelf", "station", "charger")


def free_hall(cells, ways):
    return Hall(("free",) * cells, ways)


def tied_hall(kinds, ties):
    """A two-way hall; kinds by their first letters, `c` for chargers, `.` for free cells."""
    names = {"p": "park", "h": "shelf", "s": "station", "c": "charger", ".": "free"}
    return Hall([names[kind] for kind in kinds], [way for one, other in ties for way in ((one, other), (other, one))])


def random_hall(chance, most, kinds=KINDS, least=1):
    """A hall of a few cells, with ways one way or either way."""
    cells = chance.randint(least, most)
    share = chance.choice((0.15, 0.3, 0.5, 0.8))
    single = chance.choice((0, 0.3, 1))
    ways = []
    for one, other in itertools.combinations(range(cells), 2):
        if chance.random() < share:
            both = [(one, other), (other, one)]
            ways.extend([chance.choice(both)] if chance.random() < single else both)
    return Hall([chance.choice(kinds) for _ in range(cells)], ways)


def random_halls(chance, many, most, kinds=KINDS, least=1):
    for _ in range(many):
        yield random_hall(chance, most, kinds, least)


def led_to(hall, cells, through):
    """All cells to which one can go by ways from some cells, going on only from these and from those let through."""
    found, left = set(), list(cells)
    while left:
        cell = left.pop()
        for one, other in hall.ways:
            if one == cell and other not in found:
                found.add(other)
                if through(other):
                    left.append(other)
    return found


def is_free(hall, cell):
    return hall.kinds[cell] == "free"


def ends_in(hall):
    return [cell for cell in range(hall.cells) if not is_free(hall, cell)]


def has_leg(hall, one, other):
    return other in led_to(hall, [one], lambda cell: is_free(hall, cell))


def is_row_of_ways(hall, row):
    """Whether a value is a tuple of one or more cells, each next one by a way."""
    if not isinstance(row, tuple) or not row:
        return False
    if not all(isinstance(cell, int) and not isinstance(cell, bool) and 0 <= cell < hall.cells for cell in row):
        return False
    return all(pair in hall.ways for pair in zip(row, row[1:]))


def steps(hall, one, other, through=lambda cell: True):
    """The fewest ways gone from one to an other, through cells that are let alone; None if it can't be."""
    layer, count, seen = {one}, 0, {one}
    while layer:
        if other in layer:
            return count
        layer = {b for a, b in hall.ways if a in layer and b not in seen
                 and (b == other or through(b))}
        seen |= layer
        count += 1
    return None


def subsets(things, least=0):
    things = list(things)
    for many in range(least, len(things) + 1):
        yield from itertools.combinations(things, many)
