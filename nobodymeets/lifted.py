"""Single ways that are lifted or turned about so that all cells reach each other, the fewest, and lots that show it."""

from nobodymeets.basics import is_index, is_lot, is_rising, is_sequence
from nobodymeets.errors import InvalidWays
from nobodymeets.halls import Hall, need_hall
from nobodymeets.heights import fewest_lifted, lots_above, with_opposites
from nobodymeets.pieces import lot_from, without_tie
from nobodymeets.streets import hall_bridges, is_strong_hall, is_unleft


def single_ways(hall):
    """The ways whose opposite is not there, ascending."""
    need_hall(hall)
    return tuple([(one, other) for one, other in hall.ways if one not in hall.followers[other]])


def need_single(hall, ways):
    """Unlike single ways of a hall, in any order, as keys of a dict."""
    need_hall(hall)
    if not is_sequence(ways):
        raise InvalidWays(-1)
    found = {}
    for at, way in enumerate(ways):
        if not is_single(hall, way) or (way[0], way[1]) in found:
            raise InvalidWays(at)
        found[(way[0], way[1])] = True
    return found


def is_single(hall, value):
    """Whether a value is a single way of a hall."""
    if not is_sequence(value) or len(value) != 2:
        return False
    if not is_index(value[0], hall.cells) or not is_index(value[1], hall.cells):
        return False
    return value[1] in hall.followers[value[0]] and value[0] not in hall.followers[value[1]]


def lifted_hall(hall, ways):
    """The hall with the opposites of some single ways."""
    return with_opposites(hall, list(need_single(hall, ways)))


def turned_hall(hall, ways):
    """The hall with some single ways turned about."""
    turned = need_single(hall, ways)
    left = Hall(hall.kinds, [way for way in hall.ways if way not in turned], hall.places)
    return with_opposites(left, list(turned))


def apart_lot(hall):
    """The cells that hang together with cell 0, ascending, if they are not all; else None."""
    lot = lot_from(hall.neighbours, 0)
    return lot if len(lot) < hall.cells else None


def lifted_paper(hall):
    """Some fewest single ways to be lifted so that all cells reach each other, and as many lots that show it; or the
    cells that hang together with cell 0, if they are not all."""
    need_hall(hall)
    lot = apart_lot(hall)
    if lot is not None:
        return ("apart", lot)
    return ("lifted",) + ways_and_lots(hall)


def ways_and_lots(hall):
    """Some fewest single ways to be lifted in a hall that hangs together, and as many lots, both ascending."""
    lifted, heights = fewest_lifted(hall, single_ways(hall))
    lots = []
    for height in range(1, max(heights) + 1):
        lots.extend(lots_above(hall, lifted, [cell for cell in range(hall.cells) if heights[cell] >= height]))
    return tuple(sorted(lifted)), tuple(sorted(lots))


def turning_paper(hall):
    """Some fewest single ways to be turned about so that all cells reach each other, and as many lots that show it; or
    the first single way that is a bridge's; or the cells that hang together with cell 0, if they are not all."""
    need_hall(hall)
    lot = apart_lot(hall)
    if lot is not None:
        return ("apart", lot)
    bridges = hall_bridges(hall)
    for one, other in single_ways(hall):
        if (min(one, other), max(one, other)) in bridges:
            return ("bridge", (one, other), lot_from(without_tie(hall.neighbours, one, other), other))
    # Any fewest ways to be lifted do: none of the opposites can be missed, so the ways themselves can.
    return ("turned",) + ways_and_lots(hall)


def lifted_holds(hall, value):
    """Whether any value is a paper that lifted_paper may tell, with any such ways and lots."""
    need_hall(hall)
    if not isinstance(value, tuple):
        return False
    if len(value) == 2:
        return value[0] == "apart" and is_apart(hall, value[1])
    if len(value) != 3 or value[0] != "lifted" or not are_single(hall, value[1]):
        return False
    return are_lots(hall, len(value[1]), value[2]) and is_strong_hall(lifted_hall(hall, value[1]))


def turning_holds(hall, value):
    """Whether any value is a paper that turning_paper may tell, with any such single way, ways and lots."""
    need_hall(hall)
    if not isinstance(value, tuple):
        return False
    if len(value) == 2:
        return value[0] == "apart" and is_apart(hall, value[1])
    if len(value) != 3:
        return False
    if value[0] == "bridge":
        return is_bridged(hall, value[1], value[2])
    if value[0] != "turned" or not are_single(hall, value[1]):
        return False
    return are_lots(hall, len(value[1]), value[2]) and is_strong_hall(turned_hall(hall, value[1]))


def is_apart(hall, value):
    """Whether any value is a lot of one or more cells, not all, out of which no tie goes."""
    if not is_lot(value, hall.cells) or not 1 <= len(value) < hall.cells:
        return False
    return all([near in value for cell in value for near in hall.neighbours[cell]])


def are_single(hall, value):
    """Whether any value is a tuple of single ways, ascending."""
    if not isinstance(value, tuple) or not all([isinstance(way, tuple) and is_single(hall, way) for way in value]):
        return False
    return is_rising(value)


def are_lots(hall, many, value):
    """Whether any value is so many lots of one or more cells, not all, that no way leaves, each way entering at most
    one of them."""
    if not isinstance(value, tuple) or len(value) != many or not all([is_unleft(hall, lot) for lot in value]):
        return False
    return all([len([lot for lot in value if other in lot and one not in lot]) <= 1 for one, other in hall.ways])


def is_bridged(hall, way, lot):
    """Whether any values are a single way and a lot into which it goes, while no other way goes in or out."""
    if not isinstance(way, tuple) or not is_single(hall, way) or not is_lot(lot, hall.cells):
        return False
    if way[1] not in lot or way[0] in lot:
        return False
    return not any([(one in lot) != (other in lot) for one, other in hall.ways if (one, other) != way])
