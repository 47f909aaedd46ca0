"""Passings carried out: who may start, when all come, what lateness and standing still do, and later orders."""

from nobodymeets.basics import in_order, is_count, is_index, is_number, is_sequence, steps_from, steps_from_any
from nobodymeets.errors import InvalidIndex, InvalidScript, InvalidWay, NoRobot, Refused
from nobodymeets.passings import comings_of, need_both, paper_of, web_of


class Carrying:
    """Routes and passings that are carried out, coming by coming; robots stand at first at their first visits."""

    def __init__(self, routes, passings):
        self._routes, rows = need_both(routes, passings)
        self._rows = {cell: row for cell, row in rows}
        self._come_to = [0] * len(self._routes)
        self._between = [False] * len(self._routes)

    def may_start(self, robot):
        """Whether a robot stands, and all that are ahead of its next visit in the cell's row are over."""
        need_robot(self._routes, robot)
        return self._may_start(robot)

    def start_robot(self, robot):
        """Lets a robot start to its next visit."""
        need_robot(self._routes, robot)
        if not self._may_start(robot):
            raise Refused(robot)
        self._between[robot] = True

    def come_robot(self, robot):
        """Lets a robot come to its next visit, from between two cells."""
        need_robot(self._routes, robot)
        if not self._between[robot]:
            raise Refused(robot)
        self._between[robot] = False
        self._come_to[robot] += 1

    def visit_of(self, robot):
        """The visit that a robot has come to last."""
        need_robot(self._routes, robot)
        return self._come_to[robot]

    def held_cells(self, robot):
        """The cell in which a robot is, or both that it is between, by its way."""
        need_robot(self._routes, robot)
        many = 2 if self._between[robot] else 1
        return self._routes[robot][self._come_to[robot]:self._come_to[robot] + many]

    def all_over(self):
        """Whether all robots have come to their last visits."""
        return all([visit == len(route) - 1 for visit, route in zip(self._come_to, self._routes)])

    def _may_start(self, robot):
        visit = self._come_to[robot] + 1
        if self._between[robot] or visit == len(self._routes[robot]):
            return False
        row = self._rows[self._routes[robot][visit]]
        # A visit is over when its robot has come to its next one.
        return all([over < self._come_to[other] for other, over in row[:row.index((robot, visit))]])


def need_robot(routes, robot):
    """Refuses whatever is no number of a robot."""
    if not is_index(robot, len(routes)):
        raise NoRobot(robot)


def need_times(routes, times):
    """For each robot as many numbers from 1 on as it has comings, in tuples."""
    if not is_sequence(times) or len(times) != len(routes):
        raise InvalidScript(-1)
    for robot, (route, row) in enumerate(list(zip(routes, times))):
        if not is_sequence(row) or len(row) != len(route) - 1 or not all([is_count(time) for time in row]):
            raise InvalidScript(robot)
    return tuple([tuple(row) for row in times])


def need_live(both):
    """Refuses passings that are not live."""
    if paper_of(both)[0] != "live":
        raise Refused(-1)


def need_coming(routes, coming, at):
    """Any value as a coming (robot, visit), in a tuple; at tells which of a call's comings it is."""
    if not is_sequence(coming) or len(coming) != 2 or not is_index(coming[0], len(routes)):
        raise InvalidIndex(at)
    if not is_index(coming[1], len(routes[coming[0]])) or coming[1] == 0:
        raise InvalidIndex(at)
    return (coming[0], coming[1])


def web_graph(both):
    """For each coming those to which a link of the web leads from it."""
    graph = {coming: [] for coming in comings_of(both[0])}
    for one, other in web_of(both):
        graph[one].append(other)
    return graph


def turned_web(both):
    """For each coming those from which a link of the web leads to it."""
    graph = {coming: [] for coming in comings_of(both[0])}
    for one, other in web_of(both):
        graph[other].append(one)
    return graph


def coming_times(routes, passings, times):
    """When all come who start as soon as they may and take so long: for each robot a tuple of ticks."""
    both = need_both(routes, passings)
    rows = need_times(both[0], times)
    need_live(both)
    ticks = greatest_sums(both, rows, None)
    return tuple([tuple([ticks[(robot, visit)] for visit in range(1, len(route))])
                  for robot, route in enumerate(both[0])])


def greatest_sums(both, times, begin):
    """To each coming the greatest sum of times along ways of the web; of those from a coming on, if it isn't None."""
    ahead = turned_web(both)
    sums = {}
    for coming in in_order(web_graph(both)):
        before = [sums[other] for other in ahead[coming] if other in sums]
        if begin is None or coming == begin or len(before) > 0:
            sums[coming] = max(before, default=0) + times[coming[0]][coming[1] - 1]
    return sums


def move_slack(routes, passings, times, move, coming):
    """By how much a move may take longer without a coming being later; None: by any."""
    both = need_both(routes, passings)
    rows = need_times(both[0], times)
    one = need_coming(both[0], move, 0)
    other = need_coming(both[0], coming, 1)
    need_live(both)
    ticks = greatest_sums(both, rows, None)
    behind = greatest_sums(both, rows, one)
    if other not in behind:
        return None
    # Behind the move's coming all goes on from its tick; so the greatest way through it is longer by that.
    through = ticks[one] - behind[one] + behind[other]
    return ticks[other] - through


def barred_comings(routes, passings, robot, visit):
    """What never happens if a robot never leaves a visit, and all else is live: comings, ascending."""
    both = need_both(routes, passings)
    need_robot(both[0], robot)
    if not is_index(visit, len(both[0][robot])):
        raise InvalidIndex(-1)
    need_live(both)
    if visit == len(both[0][robot]) - 1:
        return ()
    return tuple(sorted(list(steps_from(web_graph(both), (robot, visit + 1)))))


def put_behind(routes, passings, robot, cells):
    """Routes and passings in which a robot goes on, each new visit at the end of its cell's row."""
    both = need_both(routes, passings)
    need_robot(both[0], robot)
    more = need_more_cells(both[0][robot], cells)
    lasts = [route[-1] for other, route in enumerate(both[0]) if other != robot]
    for cell in more:
        if cell in lasts:
            raise Refused(cell)
    return with_cells(both, robot, more)


def need_more_cells(route, cells):
    """Cells by which a route goes on, each unlike the one ahead, in a tuple."""
    if not is_sequence(cells) or not all([is_number(cell) for cell in cells]):
        raise InvalidWay(-1)
    row = route[-1:] + tuple(cells)
    if any([one == other for one, other in zip(row, row[1:])]):
        raise InvalidWay(-1)
    return tuple(cells)


def with_cells(both, robot, cells):
    """Routes and passings in tuples in which a robot goes on through cells, each new visit at the end of its row."""
    routes, passings = both
    rows = {cell: list(row) for cell, row in passings}
    for at, cell in enumerate(cells):
        rows.setdefault(cell, []).append((robot, len(routes[robot]) + at))
    more = routes[:robot] + (routes[robot] + cells,) + routes[robot + 1:]
    return (more, tuple([(cell, tuple(rows[cell])) for cell in sorted(list(rows))]))


def need_visits(routes, visits):
    """For each robot the number of one of its visits, in a tuple."""
    if not is_sequence(visits) or len(visits) != len(routes):
        raise InvalidIndex(-1)
    if not all([is_index(visit, len(route)) for visit, route in zip(visits, routes)]):
        raise InvalidIndex(-1)
    return tuple(visits)


def open_before(routes, passings, visits, coming):
    """How many comings from which a way leads to a coming are not yet there, when robots have come to visits."""
    both = need_both(routes, passings)
    come_to = need_visits(both[0], visits)
    told = need_coming(both[0], coming, 0)
    need_live(both)
    ahead = steps_from_any(turned_web(both), [told])
    return len([one for one in ahead if one != told and one[1] > come_to[one[0]]])
