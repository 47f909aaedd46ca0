"""What keeps a hall open: needful cells, lost ones, ends that may be kept, and ways through empty ends."""

from nobodymeets.basics import is_count, is_index, is_lot, is_sequence, rows_apart, row_to, steps_from
from nobodymeets.court import barred_pair, court_paper, ends_dict, is_end, is_leg_between, legs_from
from nobodymeets.errors import InvalidCell, InvalidLot, InvalidSize, Refused
from nobodymeets.halls import Hall, lose_cells, need_hall

MOST_OTHERS = 10


def need_open(hall):
    """Refuses halls that are not open."""
    pair = barred_pair(hall.followers, ends_dict(hall))
    if pair is not None:
        raise Refused(pair)


def lost_paper(hall, lost):
    """As court_paper, of a hall with no ways into and out of some free cells."""
    need_hall(hall)
    if not is_sequence(lost):
        raise InvalidLot(-1)
    for at, cell in enumerate(lost):
        if not is_free_cell(hall, cell) or cell in lost[:at]:
            raise InvalidLot(at)
    return court_paper(lose_cells(hall, lost))


def is_free_cell(hall, value):
    """Whether a value is a free cell."""
    return is_index(value, hall.cells) and hall.kinds[value] == "free"


def needful_pair(hall, cell):
    """The first pair of ends of an open hall that a free cell parts, or None."""
    need_hall(hall)
    if not is_free_cell(hall, cell):
        raise InvalidCell(-1)
    need_open(hall)
    return pair_without(hall, cell)


def pair_without(hall, cell):
    """The first pair of ends without a leg when no way leads through a cell, or None."""
    return barred_pair(lose_cells(hall, [cell]).followers, ends_dict(hall))


def needful_cells(hall):
    """The free cells without each of which an open hall isn't open, ascending."""
    need_hall(hall)
    need_open(hall)
    return tuple([cell for cell in hall.cells_of("free") if pair_without(hall, cell) is not None])


def need_ends(hall, ends):
    """Unlike ends of a hall, in any order, as keys of a dict, ascending."""
    if not is_sequence(ends):
        raise InvalidLot(-1)
    for at, end in enumerate(ends):
        if not is_end(hall, end) or end in ends[:at]:
            raise InvalidLot(at)
    return {end: True for end in sorted(ends)}


def kept_paper(hall, kept):
    """As court_paper, of a hall in which all ends but some become free."""
    need_hall(hall)
    ends = need_ends(hall, kept)
    kinds = [kind if cell in ends else "free" for cell, kind in enumerate(hall.kinds)]
    return court_paper(Hall(kinds, hall.ways, hall.places))


def greatest_ends(hall, must):
    """All greatest lots of ends with some that must be in them that may be kept, lots of fewer ends first."""
    need_hall(hall)
    fixed = need_ends(hall, must)
    others = [end for end in ends_dict(hall) if end not in fixed]
    if len(others) > MOST_OTHERS:
        raise Refused(MOST_OTHERS)
    kept = kept_lots(hall, list(fixed), others)
    greatest = [lot for lot in kept if not any([is_kept_with(kept, lot, end) for end in others])]
    return tuple([lot for _, lot in sorted([(len(lot), lot) for lot in greatest])])


def kept_lots(hall, fixed, others):
    """The lots of fixed ends and some others that may be kept, as keys of a dict.

    Each lot within one that may be kept may be, too: so lots are made greater end by end."""
    looked = {}
    queue = [tuple(sorted(fixed))]
    at = 0
    while at < len(queue):
        lot = queue[at]
        if lot not in looked:
            looked[lot] = barred_pair(hall.followers, {end: True for end in lot}) is None
            if looked[lot]:
                queue.extend([with_end(lot, end) for end in others if end not in lot])
        at += 1
    return {lot: True for lot, is_kept in looked.items() if is_kept}


def with_end(lot, end):
    """A lot with an end more."""
    return tuple(sorted(list(lot) + [end]))


def is_kept_with(kept, lot, end):
    """Whether a lot may be kept with an end more."""
    return end not in lot and with_end(lot, end) in kept


def more_ends(hall):
    """The free cells of an open hall that may, each alone, become an end so that it stays open."""
    need_hall(hall)
    need_open(hall)
    ends = list(ends_dict(hall))
    return tuple([cell for cell in hall.cells_of("free")
                  if barred_pair(hall.followers, {end: True for end in with_end(ends, cell)}) is None])


def need_many(hall, robots):
    """The ends of a hall in which so many robots can stand and one end more be empty."""
    ends = ends_dict(hall)
    if not is_count(robots) or robots >= len(ends):
        raise InvalidSize("robots")
    return ends


def all_legs(hall, ends):
    """By each end the cells to which its legs lead, each with the one ahead."""
    return {end: legs_from(hall.followers, ends, end) for end in ends}


def leg_graph(legs, one, other):
    """For each end but two the others of these to which legs lead from it."""
    middle = [end for end in legs if end not in (one, other)]
    return {end: [near for near in middle if near != end and near in legs[end]] for end in middle}


def rows_between(legs, one, other):
    """(Rows of other ends along legs from one to an other, none in two rows, as many as there can be; fewest other
    ends that bar all) of ends between which there is no leg."""
    graph = leg_graph(legs, one, other)
    begins = [end for end in graph if end in legs[one]]
    lasts = [end for end in graph if other in legs[end]]
    return rows_apart(graph, begins, lasts)


def many_paper(hall, robots):
    """Ways from each end to each other one that so many robots can't bar, or a pair and fewest ends that bar it."""
    need_hall(hall)
    ends = need_many(hall, robots)
    legs = all_legs(hall, ends)
    told = []
    for one, other in end_pairs(ends):
        if other in legs[one]:
            told.append((one, other, (tuple(row_to(legs[one], other)),)))
            continue
        rows, lot = rows_between(legs, one, other)
        if len(rows) < robots:
            return ("barred", one, other, tuple(sorted(lot)))
        told.append((one, other, tuple([way_along(legs, [one] + row + [other]) for row in rows[:robots]])))
    return ("open", tuple(told))


def end_pairs(ends):
    """All pairs of unlike ends, by the first one, then the other."""
    return [(one, other) for one in ends for other in ends if one != other]


def way_along(legs, stops):
    """The way along legs from end to end."""
    way = stops[:1]
    for one, other in zip(stops, stops[1:]):
        way.extend(row_to(legs[one], other)[1:])
    return tuple(way)


def many_holds(hall, robots, value):
    """Whether any value is a paper that many_paper may tell, with any leg, any ways, any pair, any lot that bars."""
    need_hall(hall)
    ends = need_many(hall, robots)
    if not isinstance(value, tuple):
        return False
    if len(value) == 2:
        return value[0] == "open" and are_all_ways(hall, end_pairs(ends), robots, value[1])
    if len(value) != 4 or value[0] != "barred" or not is_end(hall, value[1]) or not is_end(hall, value[2]):
        return False
    return value[1] != value[2] and do_ends_bar(hall, robots, value[1:3], value[3])


def are_all_ways(hall, pairs, robots, value):
    """Whether any value tells ways that so many robots can't bar for each pair of ends."""
    if not isinstance(value, tuple) or len(value) != len(pairs):
        return False
    return all([are_ways_between(hall, pair, robots, told) for pair, told in zip(pairs, value)])


def are_ways_between(hall, pair, robots, value):
    """Whether any value is a pair of ends with one leg, or with so many ways that have no other end in common."""
    if not isinstance(value, tuple) or len(value) != 3 or not isinstance(value[2], tuple):
        return False
    if not is_end(hall, value[0]) or not is_end(hall, value[1]) or value[:2] != pair:
        return False
    ways = value[2]
    if len(ways) == 1 and is_leg_between(hall, pair, ways[0]):
        return True
    if len(ways) != robots or not all([is_way_between(hall, pair, way) for way in ways]):
        return False
    gone = [lot_on(hall, way) for way in ways]
    return not any([end in gone[later] for at, lot in enumerate(gone) for later in range(at) for end in lot])


def is_way_between(hall, pair, value):
    """Whether any value is a way from the one to the other of a pair, with neither again between."""
    if not isinstance(value, tuple) or len(value) < 2 or not all([is_index(cell, hall.cells) for cell in value]):
        return False
    if (value[0], value[-1]) != pair or any([cell in pair for cell in value[1:-1]]):
        return False
    return all([cell in hall.followers[ahead] for ahead, cell in zip(value, value[1:])])


def lot_on(hall, way):
    """The ends between a way's first and last cell."""
    return [cell for cell in way[1:-1] if hall.kinds[cell] != "free"]


def do_ends_bar(hall, robots, pair, value):
    """Whether any value is a lot of less than so many other ends without which no way leads from one to other."""
    if not is_lot(value, hall.cells) or len(value) >= robots:
        return False
    if not all([hall.kinds[end] != "free" and end not in pair for end in value]):
        return False
    graph = [[cell for cell in row if cell not in value] for row in hall.followers]
    return pair[1] not in steps_from(graph, pair[0])


def most_robots(hall):
    """For how many robots a hall is open, through empty ends, too; 0 if for none."""
    need_hall(hall)
    ends = ends_dict(hall)
    legs = all_legs(hall, ends)
    most = max(len(ends) - 1, 0)
    for one, other in end_pairs(ends):
        if other not in legs[one]:
            most = min(most, len(rows_between(legs, one, other)[0]))
    return most
