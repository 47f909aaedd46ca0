"""Robots parked in the ends of open halls: fewest trips where an end is empty, exchanges where all are full."""

from nobodymeets.basics import came_from, is_number, row_to, shortest_row
from nobodymeets.court import barred_pair, ends_dict
from nobodymeets.errors import NoRobot, Refused
from nobodymeets.halls import need_hall
from nobodymeets.pieces import lot_from
from nobodymeets.standings import is_pair, need_pairs, need_two_way


def need_open_ways(hall):
    """Refuses halls that are not two-way, or not open."""
    need_two_way(hall)
    if barred_pair(hall.followers, ends_dict(hall)) is not None:
        raise Refused("open")


def need_in_ends(hall, pairs):
    """Refuses standings with a robot in no end."""
    if any([hall.kinds[cell] == "free" for _, cell in pairs]):
        raise Refused("ends")


def need_trips(hall, one, other):
    """Two standings of the same robots in the ends of an open hall of which one is empty, by robots."""
    need_hall(hall)
    begin, end = need_pairs(hall, one), need_pairs(hall, other)
    need_open_ways(hall)
    need_in_ends(hall, begin)
    need_in_ends(hall, end)
    if [robot for robot, _ in begin] != [robot for robot, _ in end]:
        raise Refused("robots")
    if len(begin) == len(hall.marks):
        raise Refused("full")
    return {robot: cell for robot, cell in begin}, {robot: cell for robot, cell in end}


def trip_paper(hall, one, other):
    """(How many, some fewest trips (robot, end) that turn one standing into an other)."""
    places, goals = need_trips(hall, one, other)
    trips = []
    while places != goals:
        robot, end = next_trip(hall, places, goals)
        places[robot] = end
        trips.append((robot, end))
    return (len(trips), tuple(trips))


def next_trip(hall, places, goals):
    """A trip of whoever wants an empty end; if there is nobody, one that opens a ring."""
    away = [robot for robot in places if places[robot] != goals[robot]]
    taken = list(places.values())
    for robot in away:
        if goals[robot] not in taken:
            return robot, goals[robot]
    return away[0], [end for end, _ in hall.marks if end not in taken][0]


def fewest_trips(places, goals):
    """How many robots are not at their goals, and one more for each ring of robots that want each other's ends."""
    away = [robot for robot in places if places[robot] != goals[robot]]
    owners = {places[robot]: robot for robot in away}
    follower = {robot: owners.get(goals[robot]) for robot in away}
    rings = 0
    for robot in away:
        ring = [robot]
        ahead = follower[robot]
        while ahead is not None and ahead not in ring:
            ring.append(ahead)
            ahead = follower[ahead]
        if ahead == robot and robot == min(ring):
            rings += 1
    return len(away) + rings


def trips_hold(hall, one, other, value):
    """Whether any value is how many, and some fewest trips that turn one standing into an other."""
    places, goals = need_trips(hall, one, other)
    if not isinstance(value, tuple) or len(value) != 2 or not isinstance(value[1], tuple):
        return False
    fewest = fewest_trips(places, goals)
    if not is_number(value[0]) or value[0] != fewest or len(value[1]) != fewest:
        return False
    for trip in value[1]:
        if not is_trip(hall, places, trip):
            return False
        places[trip[0]] = trip[1]
    return places == goals


def is_trip(hall, places, value):
    """Whether any value is a trip of a robot to an empty end."""
    if not isinstance(value, tuple) or not is_pair(hall, value) or value[0] not in places:
        return False
    return hall.kinds[value[1]] != "free" and value[1] not in list(places.values())


def need_floor(hall):
    """The first piece of free cells beside all ends, ascending."""
    free = hall.cells_of("free")
    graph = [[other for other in row if other in free] for row in hall.followers]
    found = {}
    for cell in free:
        if cell not in found:
            piece = lot_from(graph, cell)
            if all([is_beside(hall, end, piece) for end, _ in hall.marks]):
                return piece
            found.update({other: True for other in piece})
    raise Refused("floor")


def is_beside(hall, end, piece):
    """Whether a way leads from an end into a piece."""
    return any([cell in piece for cell in hall.followers[end]])


def floor_graph(hall, floor, one, other):
    """The ways among the cells of a floor and two ends."""
    cells = floor + (one, other)
    return {cell: [near for near in hall.followers[cell] if near in cells] for cell in cells}


def exchange_steps(hall, floor, one, other):
    """Moves (0 or 1, cell) in a floor and two ends by which who stands in the one and the other exchange, or None."""
    graph = floor_graph(hall, floor, one, other)
    came = {(one, other): None}
    queue = [(one, other)]
    at = 0
    while at < len(queue) and (other, one) not in came:
        first, second = queue[at]
        moved = [(cell, second) for cell in graph[first] if cell != second]
        moved.extend([(first, cell) for cell in graph[second] if cell != first])
        for pair in moved:
            if pair not in came:
                came[pair] = queue[at]
                queue.append(pair)
        at += 1
    if (other, one) not in came:
        return None
    pairs = row_to(came, (other, one))
    return [(0, after[0]) if after[0] != pair[0] else (1, after[1]) for pair, after in zip(pairs, pairs[1:])]


def beside_graph(hall, floor):
    """For each end the ends whose robot can exchange with its one."""
    ends = [end for end, _ in hall.marks]
    graph = {end: [] for end in ends}
    for at, one in enumerate(ends):
        for other in ends[at + 1:]:
            if exchange_steps(hall, floor, one, other) is not None:
                graph[one].append(other)
                graph[other].append(one)
    return graph


def end_lots(hall):
    """The lots of ends whose robots can exchange, one after another, by their least ends."""
    need_hall(hall)
    need_open_ways(hall)
    graph = beside_graph(hall, need_floor(hall))
    lots = {tuple(sorted(list(came_from(graph, [end])))): True for end in graph}
    return tuple(sorted(list(lots)))


def exchange_moves(hall, standing, one, other):
    """Some moves by which just two robots exchange, all ends being full; None if their ends are in unlike lots."""
    need_hall(hall)
    pairs = need_pairs(hall, standing)
    cells = {robot: cell for robot, cell in pairs}
    for robot in (one, other):
        if not is_number(robot) or robot not in cells:
            raise NoRobot(robot)
    need_open_ways(hall)
    need_in_ends(hall, pairs)
    if len(pairs) < len(hall.marks):
        raise Refused("ends")
    floor = need_floor(hall)
    row = shortest_row(beside_graph(hall, floor), cells[one], cells[other])
    if row is None:
        return None
    return moves_along(hall, floor, {cell: robot for robot, cell in pairs}, row)


def moves_along(hall, floor, robots, row):
    """The moves by which the robots at a row's ends exchange: the first goes along it, then the last one back."""
    steps = list(zip(row, row[1:]))
    moves = []
    for one, other in steps + steps[:-1][::-1]:
        pair = (robots[one], robots[other])
        moves.extend([(pair[which], cell) for which, cell in exchange_steps(hall, floor, one, other)])
        robots[one], robots[other] = pair[1], pair[0]
    return tuple(moves)
