"""The court of open halls: whether a leg leads from each end to each other one, and what that means for errands."""

from nobodymeets.basics import is_index, is_lot, is_number, is_sequence, row_to
from nobodymeets.errors import InvalidLot, InvalidRobots, InvalidSize, NoRobot
from nobodymeets.halls import need_hall


def end_cells(hall):
    """The ends of a hall: all cells but free ones, ascending."""
    need_hall(hall)
    return tuple([cell for cell, _ in hall.marks])


def legs_from(graph, ends, one):
    """All cells to which legs from an end, or their beginnings, lead, each with the one ahead on a shortest way.

    Ends are the keys of a dict; a leg is over where it comes to one."""
    came = {one: None}
    queue = [one]
    at = 0
    while at < len(queue):
        cell = queue[at]
        for other in graph[cell]:
            if other not in came:
                came[other] = cell
                if other not in ends:
                    queue.append(other)
        at += 1
    return came


def ends_dict(hall):
    """The ends of a hall as keys of a dict, ascending."""
    return {cell: True for cell, _ in hall.marks}


def court_paper(hall):
    """Legs from each end to each other one, or the first pair of ends without one and the free cells led to."""
    need_hall(hall)
    ends = ends_dict(hall)
    legs = []
    for one in ends:
        came = legs_from(hall.followers, ends, one)
        for other in ends:
            if other not in came:
                return ("barred", one, other, tuple(sorted([cell for cell in came if cell not in ends])))
            if other != one:
                legs.append(tuple(row_to(came, other)))
    return ("open", tuple(legs))


def is_open(hall):
    """Whether there is a leg from each end to each other one."""
    need_hall(hall)
    return barred_pair(hall.followers, ends_dict(hall)) is None


def barred_pair(graph, ends):
    """The first pair of ends without a leg, or None; ends are the keys of a dict, ascending."""
    for one in ends:
        came = legs_from(graph, ends, one)
        for other in ends:
            if other not in came:
                return (one, other)
    return None


def court_holds(hall, value):
    """Whether any value is a paper that court_paper may tell, with any legs, any pair and any such lot."""
    need_hall(hall)
    if not isinstance(value, tuple):
        return False
    if len(value) == 2:
        return value[0] == "open" and are_all_legs(hall, value[1])
    return len(value) == 4 and value[0] == "barred" and does_bar(hall, value[1], value[2], value[3])


def are_all_legs(hall, value):
    """Whether any value is a leg from each end to each other one, by first end, then last."""
    ends = list(ends_dict(hall))
    pairs = [(one, other) for one in ends for other in ends if one != other]
    if not isinstance(value, tuple) or len(value) != len(pairs):
        return False
    return all([is_leg_between(hall, pair, leg) for pair, leg in zip(pairs, value)])


def is_leg_between(hall, pair, value):
    """Whether any value is a leg from the one to the other of a pair of ends."""
    if not isinstance(value, tuple) or len(value) < 2 or not all([is_index(cell, hall.cells) for cell in value]):
        return False
    if (value[0], value[-1]) != pair or not all([hall.kinds[cell] == "free" for cell in value[1:-1]]):
        return False
    return all([cell in hall.followers[ahead] for ahead, cell in zip(value, value[1:])])


def does_bar(hall, one, other, lot):
    """Whether any values are two unlike ends and a lot of free cells that no way leaves, from the one or the lot,
    to another free cell or to the other."""
    if not is_end(hall, one) or not is_end(hall, other) or one == other or not is_lot(lot, hall.cells):
        return False
    if not all([hall.kinds[cell] == "free" for cell in lot]):
        return False
    led = [cell for begin in (one,) + lot for cell in hall.followers[begin]]
    return other not in led and all([cell in lot for cell in led if hall.kinds[cell] == "free"])


def is_end(hall, value):
    """Whether a value is a cell that is not free."""
    return is_index(value, hall.cells) and hall.kinds[value] != "free"


def errand_way(hall, robots, robot, errand):
    """Some shortest way of a robot along its errand, leg by leg, the others standing; None if there is none."""
    need_hall(hall)
    places = need_places(hall, robots)
    if not is_index(robot, len(places)):
        raise NoRobot(robot)
    stops = (places[robot],) + need_errand(hall, places, robot, errand)
    ends = ends_dict(hall)
    way = stops[:1]
    for one, other in zip(stops, stops[1:]):
        came = legs_from(hall.followers, ends, one)
        if other not in came:
            return None
        way = way + tuple(row_to(came, other)[1:])
    return way


def need_places(hall, robots):
    """Unlike ends in which robots stand, by number, in a tuple."""
    if not is_sequence(robots):
        raise InvalidRobots(-1)
    for at, end in enumerate(robots):
        if not is_end(hall, end) or end in robots[:at]:
            raise InvalidRobots(at)
    return tuple(robots)


def need_errand(hall, places, robot, errand):
    """Ends in which nobody else stands, each unlike the one ahead, in a tuple."""
    if not is_sequence(errand):
        raise InvalidLot(-1)
    before = places[robot]
    for at, end in enumerate(errand):
        if not is_end(hall, end) or end == before or (end in places and end != places[robot]):
            raise InvalidLot(at)
        before = end
    return tuple(errand)


def errand_most(hall, many):
    """How many starts an errand of so many ends takes at most."""
    need_hall(hall)
    if not is_number(many):
        raise InvalidSize("ends")
    return many * (hall.cells - len(hall.marks) + 1)
