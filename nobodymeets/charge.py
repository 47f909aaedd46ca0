"""Charge: how far chargers are, where to turn at the latest, and halls in which robots can be sent for ever."""

from nobodymeets.basics import came_from, is_count, is_index, is_lot, is_number, row_to, steps_from_any
from nobodymeets.errors import InvalidSize, Refused
from nobodymeets.halls import followers_of, need_hall
from nobodymeets.worlds import need_way


def need_chargers(hall):
    """The chargers of a hall, ascending; halls without any are refused."""
    chargers = hall.cells_of("charger")
    if len(chargers) == 0:
        raise Refused(-1)
    return chargers


def need_full(full):
    """Refuses whatever is no full charge."""
    if not is_count(full):
        raise InvalidSize("full")


def turned_graph(hall):
    """For each cell the cells from which a way leads to it."""
    return followers_of(hall.cells, [(other, one) for one, other in hall.ways])


def steps_row(graph, cells):
    """For each cell the fewest steps to it from any of some cells, None without a way."""
    steps = steps_from_any(graph, cells)
    return tuple([steps.get(cell) for cell in range(len(graph))])


def charger_steps(hall):
    """For each cell the fewest starts from it to a charger, None without a way."""
    need_hall(hall)
    return steps_row(turned_graph(hall), need_chargers(hall))


def charger_comings(hall):
    """For each cell the fewest starts from a charger to it, None without a way."""
    need_hall(hall)
    return steps_row(hall.followers, need_chargers(hall))


def latest_turn(hall, way, charge):
    """The last place of a way up to which one can go by a charge and yet come to a charger, or None."""
    cells = need_way(hall, way)
    if not is_number(charge):
        raise InvalidSize("charge")
    steps = charger_steps(hall)
    places = [at for at, cell in enumerate(cells) if steps[cell] is not None and at + steps[cell] <= charge]
    return max(places, default=None)


def bounded(row, full):
    """A row of steps with greater ones than a full charge, and None, as one more than it."""
    return tuple([full + 1 if steps is None else min(steps, full + 1) for steps in row])


def served_paper(hall, full):
    """What shows that robots of a full charge can be sent for ever to any cells that are not free, or that not."""
    need_hall(hall)
    need_full(full)
    chargers = need_chargers(hall)
    comings = bounded(charger_comings(hall), full)
    steps = bounded(charger_steps(hall), full)
    for cell, _ in hall.marks:
        if comings[cell] + steps[cell] > full:
            return ("end", cell, comings, steps)
    ways = hop_ways(hall, chargers)
    outs = hops_along(ways, chargers, full)
    lot = chargers_in(outs, chargers, -1)
    if len(lot) == len(chargers):
        ins = hops_along(turned_ways(ways), chargers, full)
        led = chargers_in(ins, chargers, -1)
        if len(led) == len(chargers):
            return ("served", end_ways(hall, chargers), outs, tuple([hop[::-1] for hop in ins]))
        lot = tuple([charger for charger in chargers if charger not in led])
    return ("shut", lot, bounded(steps_row(hall.followers, lot), full))


def end_ways(hall, chargers):
    """For each cell that is not free, ascending, (cell, a shortest way from a charger, one to a charger)."""
    came = came_from(hall.followers, chargers)
    turned = came_from(turned_graph(hall), chargers)
    return tuple([(cell, tuple(row_to(came, cell)), tuple(row_to(turned, cell)[::-1])) for cell, _ in hall.marks])


def hop_ways(hall, chargers):
    """A shortest way by each pair of unlike chargers between which there is one."""
    ways = {}
    for one in chargers:
        came = came_from(hall.followers, [one])
        for other in chargers:
            if other != one and other in came:
                ways[(one, other)] = tuple(row_to(came, other))
    return ways


def turned_ways(ways):
    """Ways by pairs of chargers, all turned about."""
    return {(other, one): way[::-1] for (one, other), way in ways.items()}


def hops_along(ways, chargers, full):
    """Hops by a full charge, each from a charger led to from the least one to a new one, as far as they lead."""
    led = [chargers[0]]
    hops = []
    at = 0
    while at < len(led):
        for charger in chargers:
            way = ways.get((led[at], charger))
            if way is not None and len(way) - 1 <= full and charger not in led:
                led.append(charger)
                hops.append(way)
        at += 1
    return tuple(hops)


def chargers_in(hops, chargers, at):
    """The least charger and those at one end of hops, ascending."""
    return tuple(sorted([chargers[0]] + [hop[at] for hop in hops]))


def served_holds(hall, full, value):
    """Whether any value is a paper that served_paper may tell, with any such cell, lot, ways and numbers."""
    need_hall(hall)
    need_full(full)
    chargers = need_chargers(hall)
    if not isinstance(value, tuple):
        return False
    if len(value) == 3:
        return value[0] == "shut" and is_shut(hall, full, chargers, value[1], value[2])
    if len(value) != 4:
        return False
    if value[0] == "end":
        return is_far_end(hall, full, chargers, value[1:])
    if value[0] != "served" or not do_serve_ends(hall, full, value[1]):
        return False
    return do_hop(hall, full, value[2], 0) and do_hop(hall, full, value[3], -1)


def is_far_end(hall, full, chargers, parts):
    """Whether any values are a cell that is not free and numbers, no greater than starts from and to chargers,
    above a full charge in its sum."""
    cell, comings, steps = parts
    if not is_index(cell, hall.cells) or hall.kinds[cell] == "free":
        return False
    if not are_bounds(hall.ways, chargers, comings, hall.cells):
        return False
    if not are_bounds([(other, one) for one, other in hall.ways], chargers, steps, hall.cells):
        return False
    return comings[cell] + steps[cell] > full


def are_bounds(ways, begins, value, many):
    """Whether any value is a number for so many cells, 0 at some, that rises by at most 1 along each way."""
    if not isinstance(value, tuple) or len(value) != many or not all([is_number(number) for number in value]):
        return False
    if not all([value[cell] == 0 for cell in begins]):
        return False
    return all([value[other] <= value[one] + 1 for one, other in ways])


def is_shut(hall, full, chargers, lot, steps):
    """Whether any values are some chargers, not all, and numbers, no greater than starts from them, above a full
    charge at all others."""
    if not is_lot(lot, hall.cells) or not all([cell in chargers for cell in lot]):
        return False
    others = [cell for cell in chargers if cell not in lot]
    if len(lot) == 0 or len(others) == 0 or not are_bounds(hall.ways, lot, steps, hall.cells):
        return False
    return all([steps[cell] > full for cell in others])


def do_serve_ends(hall, full, value):
    """Whether any value tells for each cell that is not free, ascending, two ways of at most a full charge together."""
    if not isinstance(value, tuple) or len(value) != len(hall.marks):
        return False
    return all([is_served(hall, full, mark[0], part) for mark, part in zip(hall.marks, value)])


def is_served(hall, full, cell, value):
    """Whether any value is a cell with a way from a charger and one to a charger, together of at most full starts."""
    if not isinstance(value, tuple) or len(value) != 3 or not is_index(value[0], hall.cells) or value[0] != cell:
        return False
    if not is_plain_way(hall, value[1]) or not is_plain_way(hall, value[2]):
        return False
    if value[1][-1] != cell or value[2][0] != cell or len(value[1]) + len(value[2]) - 2 > full:
        return False
    return hall.kinds[value[1][0]] == "charger" and hall.kinds[value[2][-1]] == "charger"


def is_plain_way(hall, value):
    """Whether any value is a tuple of one or more cells, each but the first next to the one before."""
    if not isinstance(value, tuple) or len(value) == 0 or not all([is_index(cell, hall.cells) for cell in value]):
        return False
    return all([cell in hall.followers[before] for before, cell in zip(value, value[1:])])


def do_hop(hall, full, value, near):
    """Whether any value is hops, each between a new charger and the least one or one hopped to before, till all are.

    The known charger is the hops' first cell (near is 0), or their last one (near is -1)."""
    chargers = hall.cells_of("charger")
    if not isinstance(value, tuple) or len(value) != len(chargers) - 1:
        return False
    known = [chargers[0]]
    for hop in value:
        if not is_plain_way(hall, hop) or len(hop) - 1 > full or hop[near] not in known:
            return False
        other = hop[-1 - near]
        if hall.kinds[other] != "charger" or other in known:
            return False
        known.append(other)
    return True


def least_full(hall):
    """The least full charge by which a hall is served, or None."""
    need_hall(hall)
    chargers = need_chargers(hall)
    comings, steps = charger_comings(hall), charger_steps(hall)
    if any([comings[cell] is None or steps[cell] is None for cell, _ in hall.marks]):
        return None
    ways = hop_ways(hall, chargers)
    least = max([comings[cell] + steps[cell] for cell, _ in hall.marks] + [1])
    for full in [least] + sorted([len(way) - 1 for way in ways.values() if len(way) - 1 > least]):
        if do_all_hop(ways, chargers, full):
            return full
    return None


def do_all_hop(ways, chargers, full):
    """Whether by hops of a full charge each charger leads to each."""
    many = len(chargers) - 1
    return len(hops_along(ways, chargers, full)) == many and len(hops_along(turned_ways(ways), chargers, full)) == many
