"""Routes of robots and passings, the order in which they come to each cell: a plan without its ticks."""

from nobodymeets.basics import in_order, is_index, is_number, is_sequence
from nobodymeets.errors import InvalidOrders, InvalidRoutes, Refused
from nobodymeets.halls import need_hall
from nobodymeets.plans import clash_of, need_rows
from nobodymeets.worlds import need_plan, way_of

MOST_ROUTES = 8


def need_routes(hall, value):
    """Any value as routes: for each robot its way in a hall."""
    need_hall(hall)
    need_few(value)
    for robot, route in enumerate(value):
        if not is_route(route) or not is_hall_route(hall, route):
            raise InvalidRoutes(robot)
    return tuple([tuple(route) for route in value])


def need_few(value):
    """Refuses whatever is no sequence of one to eight things."""
    if not is_sequence(value) or not 1 <= len(value) <= MOST_ROUTES:
        raise InvalidRoutes(-1)


def is_hall_route(hall, route):
    """Whether numbers are cells, each but the first next to the one before."""
    if not all([is_index(cell, hall.cells) for cell in route]):
        return False
    return all([cell in hall.followers[before] for before, cell in zip(route, route[1:])])


def need_any_routes(value):
    """Any value as routes of some hall: for one to eight robots numbers, each unlike the one ahead, in tuples."""
    need_few(value)
    for robot, route in enumerate(value):
        if not is_route(route):
            raise InvalidRoutes(robot)
    return tuple([tuple(route) for route in value])


def is_route(value):
    """Whether a value is one or more numbers, each unlike the one ahead."""
    if not is_sequence(value) or len(value) == 0 or not all([is_number(cell) for cell in value]):
        return False
    return all([one != other for one, other in zip(value, value[1:])])


def need_passings(routes, value):
    """Any value as passings of routes: for each visited cell, ascending, the row of its visits, in tuples."""
    due = due_visits(need_any_routes(routes))
    if not is_sequence(value):
        raise InvalidOrders(-1)
    for number, cell in enumerate(due):
        if number == len(value) or not is_due_row(cell, due[cell], value[number]):
            raise InvalidOrders(number)
    if len(value) > len(due):
        raise InvalidOrders(len(due))
    return tuple([(row[0], tuple([(robot, visit) for robot, visit in row[1]])) for row in value])


def due_visits(routes):
    """For each visited cell, ascending, its visits, each robot's own ascending."""
    visits = {}
    for robot, route in enumerate(routes):
        for visit, cell in enumerate(route):
            visits.setdefault(cell, []).append((robot, visit))
    return {cell: visits[cell] for cell in sorted(list(visits))}


def is_due_row(cell, visits, value):
    """Whether a value is a cell and all its visits, each once, a robot's own ascending."""
    if not is_sequence(value) or len(value) != 2 or not is_number(value[0]) or value[0] != cell:
        return False
    if not is_sequence(value[1]) or not all([is_visit(visit) for visit in value[1]]):
        return False
    row = [(robot, visit) for robot, visit in value[1]]
    if sorted(row) != visits:
        return False
    lasts = {}
    for robot, visit in row:
        if visit < lasts.get(robot, 0):
            return False
        lasts[robot] = visit
    return True


def is_visit(value):
    """Whether a value is a pair of numbers."""
    return is_sequence(value) and len(value) == 2 and is_number(value[0]) and is_number(value[1])


def need_both(routes, passings):
    """Routes of some hall, and passings of them, in tuples."""
    return need_any_routes(routes), need_passings(routes, passings)


def plan_routes(plan):
    """The routes of a plan: its rows without the waits."""
    return tuple([way_of(row) for row in need_rows(plan)])


def plan_passings(hall, plan):
    """The passings of a plan without meeting: each cell's visits by time."""
    rows = need_plan(hall, plan)
    clash = clash_of(rows)
    if clash is not None:
        raise Refused(clash[0])
    return timed_passings(rows)


def timed_passings(rows):
    """Each cell's visits by time, of a plan in tuples in which no two come to a cell at a tick."""
    comings = {}
    for robot, row in enumerate(rows):
        visit = 0
        for tick, cell in enumerate(row):
            if tick == 0 or cell != row[tick - 1]:
                comings.setdefault(cell, []).append((tick, robot, visit))
                visit += 1
    return tuple([(cell, tuple([(robot, visit) for _, robot, visit in sorted(comings[cell])]))
                  for cell in sorted(list(comings))])


def order_pairs(routes, passings):
    """All (one, a, other, b), ascending: the one's a-th visit stands ahead of another robot's b-th in a cell's row."""
    return pairs_of(need_both(routes, passings))


def pairs_of(both):
    """The pairs of order_pairs of routes and passings in tuples."""
    pairs = []
    for _, row in both[1]:
        for at, (other, later) in enumerate(row):
            pairs.extend([(one, visit, other, later) for one, visit in row[:at] if one != other])
    return tuple(sorted(pairs))


def passing_web(routes, passings):
    """All pairs of comings, ascending, of which the first must be ahead of the second."""
    return web_of(need_both(routes, passings))


def web_of(both):
    """The web of routes and passings in tuples."""
    routes, passings = both
    pairs = [((robot, visit - 1), (robot, visit)) for robot, visit in comings_of(routes) if visit > 1]
    for _, row in passings:
        for (robot, visit), (other, later) in zip(row, row[1:]):
            if robot != other and visit + 1 < len(routes[robot]) and later > 0:
                pairs.append(((robot, visit + 1), (other, later)))
    return tuple(sorted(pairs))


def passing_paper(routes, passings):
    """What shows that passings can't all be gone, or numbers of all comings that rise along the web."""
    return paper_of(need_both(routes, passings))


def paper_of(both):
    """The paper of routes and passings in tuples."""
    routes, passings = both
    for _, row in passings:
        for visit, after in zip(row, row[1:]):
            if is_last(routes, visit):
                return ("behind", after, visit)
    for _, row in passings:
        for visit in row[1:]:
            if visit[1] == 0:
                return ("first", visit)
    web = web_of(both)
    ahead = {coming: [] for coming in comings_of(routes)}
    for one, other in web:
        ahead[other].append(one)
    numbers = greatest_ways(web, ahead)
    if len(numbers) < len(ahead):
        return ("ring", ring_among(ahead, numbers))
    return ("live", tuple([tuple([numbers[(robot, visit)] for visit in range(1, len(route))])
                           for robot, route in enumerate(routes)]))


def is_last(routes, visit):
    """Whether a visit is its robot's last one."""
    return visit[1] == len(routes[visit[0]]) - 1


def comings_of(routes):
    """All comings of routes, ascending."""
    return [(robot, visit) for robot, route in enumerate(routes) for visit in range(1, len(route))]


def greatest_ways(web, ahead):
    """For each coming ahead of which there is no ring the length of the greatest way to it, 1 for each coming."""
    behind = {coming: [] for coming in ahead}
    for one, other in web:
        behind[one].append(other)
    numbers = {}
    for coming in in_order(behind):
        numbers[coming] = 1 + max([numbers[other] for other in ahead[coming]], default=0)
    return numbers


def ring_among(ahead, numbers):
    """Some ring of comings without a number, from its least one on: each has one ahead of it without a number."""
    row = [[coming for coming in ahead if coming not in numbers][0]]
    while row[-1] not in row[:-1]:
        row.append([coming for coming in ahead[row[-1]] if coming not in numbers][0])
    ring = row[row.index(row[-1]) + 1:][::-1]
    begin = ring.index(min(ring))
    return tuple(ring[begin:] + ring[:begin])


def passing_holds(routes, passings, value):
    """Whether any value is a paper that passing_paper may tell, with any visits, any ring, any rising numbers."""
    both = need_both(routes, passings)
    if not isinstance(value, tuple):
        return False
    if len(value) == 3:
        return value[0] == "behind" and is_behind(both, value[1], value[2])
    if len(value) != 2:
        return False
    if value[0] == "first":
        return is_late_first(both, value[1])
    if value[0] == "ring":
        return is_ring(both, value[1])
    return value[0] == "live" and do_rise(both, value[1])


def is_plain_visit(value):
    """Whether any value is a pair of numbers in a tuple."""
    return isinstance(value, tuple) and is_visit(value)


def is_behind(both, visit, last):
    """Whether any values are a visit and a robot's last one, the first right behind the second in a row."""
    routes, passings = both
    if not is_plain_visit(visit) or not is_plain_visit(last):
        return False
    return any([(last, visit) in list(zip(row, row[1:])) for _, row in passings]) and is_last(routes, last)


def is_late_first(both, value):
    """Whether any value is a robot's first visit with another one ahead of it."""
    return is_plain_visit(value) and value[1] == 0 and any([value in row[1:] for _, row in both[1]])


def is_ring(both, value):
    """Whether any value is comings, each ahead of the next in the web, the last of the first."""
    if not isinstance(value, tuple) or len(value) == 0 or not all([is_plain_visit(coming) for coming in value]):
        return False
    web = {pair: True for pair in web_of(both)}
    return all([pair in web for pair in zip(value, value[1:] + value[:1])])


def do_rise(both, value):
    """Whether any value is for each robot a number for each coming, rising along the web, where no visit is behind
    a last one or is a late first one."""
    routes, passings = both
    if not isinstance(value, tuple) or len(value) != len(routes):
        return False
    if not all([are_coming_numbers(route, row) for route, row in zip(routes, value)]):
        return False
    if any([is_last(routes, one) or other[1] == 0 for _, row in passings for one, other in zip(row, row[1:])]):
        return False
    return all([value[one[0]][one[1] - 1] < value[other[0]][other[1] - 1] for one, other in web_of(both)])


def are_coming_numbers(route, value):
    """Whether any value is a number for each coming of a route, in a tuple."""
    return isinstance(value, tuple) and len(value) == len(route) - 1 and all([is_number(number) for number in value])


def strict_plan(routes, passings):
    """The plan in which each coming is at the number that passing_paper tells for it."""
    both = need_both(routes, passings)
    paper = paper_of(both)
    if paper[0] != "live":
        raise Refused(-1)
    last = max([number for row in paper[1] for number in row], default=0)
    return tuple([timed_row(route, numbers, last) for route, numbers in zip(both[0], paper[1])])


def timed_row(route, numbers, last):
    """The row of a route, each coming at its tick, told to a last one."""
    row = []
    for cell, tick in zip(route, numbers + (last + 1,)):
        row.extend([cell] * (tick - len(row)))
    return tuple(row)
