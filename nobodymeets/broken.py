"""What breaks: fewest lost cells to be fetched, in which order, and who waits for ever for a broken robot."""

from nobodymeets.basics import is_index, is_lot, is_sequence, row_to
from nobodymeets.carried import with_cells
from nobodymeets.errors import InvalidIndex, NoRobot, Refused
from nobodymeets.halls import need_cell, need_cells, need_hall
from nobodymeets.passings import need_passings, need_routes, paper_of


def led_by(hall, lost, start):
    """(By each cell to which a leg leads the fewest lost cells on one, the cell ahead on such a leg)."""
    level = 1 if start in lost else 0
    levels = {start: level}
    ahead = {start: None}
    now = [start]
    while len(now) > 0:
        later = []
        at = 0
        while at < len(now):
            cell = now[at]
            for other in onward_cells(hall, start, cell):
                if other not in levels:
                    levels[other] = level + 1 if other in lost else level
                    ahead[other] = cell
                    if other in lost:
                        later.append(other)
                    else:
                        now.append(other)
            at += 1
        now = later
        level += 1
    return levels, ahead


def onward_cells(hall, start, cell):
    """Where a leg from a start goes on from a cell on it: it ends in cells that are not free."""
    return hall.followers[cell] if cell == start or hall.kinds[cell] == "free" else ()


def fetch_paper(hall, lost, start, goal):
    """A leg with the fewest lost cells on it and as many lots that bar all legs, or all cells to which legs lead."""
    need_hall(hall)
    cells = need_cells(hall, lost)
    need_cell(hall, start, 0)
    need_cell(hall, goal, 1)
    levels, ahead = led_by(hall, cells, start)
    if goal not in levels:
        return ("shut", tuple(sorted(list(levels))))
    # The fewest lost cells rise along legs by one at most, so each of these numbers is met on each leg.
    lots = [tuple(sorted([cell for cell in cells if levels.get(cell) == number]))
            for number in range(1, levels[goal] + 1)]
    return ("way", tuple(row_to(ahead, goal)), tuple(lots))


def fetch_holds(hall, lost, start, goal, value):
    """Whether any value is a paper that fetch_paper may tell, with any such leg and lots."""
    need_hall(hall)
    cells = need_cells(hall, lost)
    need_cell(hall, start, 0)
    need_cell(hall, goal, 1)
    if not isinstance(value, tuple):
        return False
    if len(value) == 2:
        led = tuple(sorted(list(led_by(hall, {}, start)[0])))
        return value[0] == "shut" and goal not in led and is_lot(value[1], hall.cells) and value[1] == led
    if len(value) != 3 or value[0] != "way" or not is_any_leg(hall, start, goal, value[1]):
        return False
    if not are_apart(cells, value[2]) or len(value[2]) != len([cell for cell in value[1] if cell in cells]):
        return False
    return not any([has_leg_past(hall, lot, start, goal) for lot in value[2]])


def is_any_leg(hall, start, goal, value):
    """Whether any value is a way from a start to a goal, all between free."""
    if not isinstance(value, tuple) or len(value) == 0 or not all([is_index(cell, hall.cells) for cell in value]):
        return False
    if value[0] != start or value[-1] != goal or not all([hall.kinds[cell] == "free" for cell in value[1:-1]]):
        return False
    return all([cell in hall.followers[before] for before, cell in zip(value, value[1:])])


def are_apart(cells, value):
    """Whether any value is tuples of lost cells, none of which is there twice."""
    if not isinstance(value, tuple) or not all([isinstance(lot, tuple) for lot in value]):
        return False
    told = [cell for lot in value for cell in lot]
    if not all([isinstance(cell, int) and not isinstance(cell, bool) and cell in cells for cell in told]):
        return False
    return len({cell: True for cell in told}) == len(told)


def has_leg_past(hall, barred, start, goal):
    """Whether a leg leads from a start to a goal with no barred cell on it."""
    if start in barred:
        return False
    came = came_past(hall, barred, start)
    return goal in came


def came_past(hall, barred, start):
    """All cells to which legs lead from a start, past barred ones behind it, each with the cell ahead."""
    came = {start: None}
    queue = [start]
    at = 0
    while at < len(queue):
        cell = queue[at]
        for other in onward_cells(hall, start, cell):
            if other not in came and other not in barred:
                came[other] = cell
                queue.append(other)
        at += 1
    return came


def can_free(hall, lost, start):
    """Those of some lost cells but the start that a fetcher frees from there, ascending."""
    led = list(came_past(hall, lost, start))
    beside = {other: True for cell in led for other in onward_cells(hall, start, cell)}
    return sorted([cell for cell in lost if cell in beside and cell != start])


def fetch_order(hall, lost, start):
    """(The lost cells that a fetcher frees, each time the least, those that it never does)."""
    need_hall(hall)
    cells = need_cells(hall, lost)
    need_cell(hall, start, 0)
    left = list(cells)
    freed = []
    while len(can_free(hall, left, start)) > 0:
        freed.append(can_free(hall, left, start)[0])
        left = [cell for cell in left if cell != freed[-1]]
    return (tuple(freed), tuple(sorted([cell for cell in left if cell != start])))


def freed_holds(hall, lost, start, value):
    """Whether any value is lost cells in an order in which they can be freed, and all others, none of which can be."""
    need_hall(hall)
    cells = need_cells(hall, lost)
    need_cell(hall, start, 0)
    if not isinstance(value, tuple) or len(value) != 2 or not isinstance(value[0], tuple):
        return False
    left = list(cells)
    for cell in value[0]:
        if not is_index(cell, hall.cells) or cell not in can_free(hall, left, start):
            return False
        left = [other for other in left if other != cell]
    never = tuple(sorted([cell for cell in left if cell != start]))
    return is_lot(value[1], hall.cells) and value[1] == never and len(can_free(hall, left, start)) == 0


def need_state(hall, routes, passings, visits, gone, broken):
    """Live routes and passings in tuples, the visits that robots have come to, those between two, and broken ones."""
    rows = need_routes(hall, routes)
    both = (rows, need_passings(rows, passings))
    come_to = need_each_visit(rows, visits)
    between = need_robots(rows, gone)
    still = need_robots(rows, broken)
    if paper_of(both)[0] != "live":
        raise Refused("ring")
    if not do_lead(both, come_to, between):
        raise Refused("standing")
    return both, come_to, between, still


def need_each_visit(routes, visits):
    """For each robot the number of one of its visits, in a tuple."""
    if not is_sequence(visits) or len(visits) != len(routes):
        raise InvalidIndex(-1)
    for robot, (visit, route) in enumerate(list(zip(visits, routes))):
        if not is_index(visit, len(route)):
            raise InvalidIndex(robot)
    return tuple(visits)


def need_robots(routes, robots):
    """Numbers of robots, in any order, as keys of a dict."""
    if not is_sequence(robots):
        raise NoRobot(robots)
    for robot in robots:
        if not is_index(robot, len(routes)):
            raise NoRobot(robot)
    return {robot: True for robot in robots}


def do_lead(both, come_to, between):
    """Whether starts and comings lead to visits and between: all ahead of what was started to are over."""
    routes, passings = both
    rows = {cell: row for cell, row in passings}
    for robot, route in enumerate(routes):
        last = come_to[robot] + 1 if robot in between else come_to[robot]
        if last == len(route):
            return False
        for visit in range(1, last + 1):
            if not is_clear(rows[route[visit]], come_to, (robot, visit)):
                return False
    return True


def is_clear(row, come_to, visit):
    """Whether all visits ahead of one in a row are over."""
    return all([over < come_to[other] for other, over in row[:row.index(visit)]])


def cut_routes(both, many):
    """Routes and passings with just so many visits of each robot."""
    routes, passings = both
    rows = [(cell, tuple([(robot, visit) for robot, visit in row if visit < many[robot]])) for cell, row in passings]
    cut = tuple([route[:length] for route, length in zip(routes, many)])
    return (cut, tuple([row for row in rows if len(row[1]) > 0]))


def struck_both(state):
    """Routes and passings without what broken robots would have visited behind the cells in which they are."""
    both, come_to, between, still = state
    many = [len(route) for route in both[0]]
    for robot in still:
        many[robot] = come_to[robot] + (2 if robot in between else 1)
    return cut_routes(both, many)


def last_comings(both, state):
    """By each robot the last visit to which it ever comes, if broken ones never move and all others do at last."""
    come_to = list(state[1])
    rows = {cell: row for cell, row in both[1]}
    changed = True
    while changed:
        changed = False
        for robot, route in enumerate(both[0]):
            visit = come_to[robot] + 1
            if robot not in state[3] and visit < len(route) and is_clear(rows[route[visit]], come_to, (robot, visit)):
                come_to[robot] = visit
                changed = True
    return come_to


def struck_passings(hall, routes, passings, visits, gone, broken):
    """(Routes, passings) without what broken robots would have visited behind the cells in which they are."""
    return struck_both(need_state(hall, routes, passings, visits, gone, broken))


def never_comings(hall, routes, passings, visits, gone, broken):
    """The comings of unbroken robots, ascending, which never happen if all others move at last."""
    state = need_state(hall, routes, passings, visits, gone, broken)
    both = struck_both(state)
    lasts = last_comings(both, state)
    return tuple([(robot, visit) for robot, route in enumerate(both[0]) if robot not in state[3]
                  for visit in range(lasts[robot] + 1, len(route))])


def mended_passings(hall, routes, passings, visits, gone, broken):
    """(Routes, passings, who is left) in which robots that would never come go on by legs past the broken ones."""
    state = need_state(hall, routes, passings, visits, gone, broken)
    both = struck_both(state)
    lasts = last_comings(both, state)
    goals = {robot: route[-1] for robot, route in enumerate(both[0])
             if robot not in state[3] and lasts[robot] + 1 < len(route)}
    barred = [cell for robot in state[3] for cell in both[0][robot][state[1][robot]:]]
    both = cut_routes(both, [lasts[robot] + 1 if robot in goals else len(route) for robot, route in enumerate(both[0])])
    left = sorted(list(goals))
    found = first_leg_past(hall, both, barred, goals, left)
    while found is not None:
        both = with_cells(both, found[0], found[1][1:])
        left = [robot for robot in left if robot != found[0]]
        found = first_leg_past(hall, both, barred, goals, left)
    return both + (tuple(left),)


def first_leg_past(hall, both, barred, goals, left):
    """(The least robot of those left that finds a leg to its goal past barred cells and ends of routes, the leg)."""
    for robot in left:
        ends = [route[-1] for other, route in enumerate(both[0]) if other != robot]
        begin = both[0][robot][-1]
        came = came_past(hall, barred + ends, begin)
        if goals[robot] in came:
            return robot, tuple(row_to(came, goals[robot]))
    return None
