"""Plans by rank: one robot behind the other, each around those ahead of it and the starts of those behind it."""

from nobodymeets.basics import is_number, is_sequence
from nobodymeets.errors import InvalidSize, InvalidTask, Refused
from nobodymeets.halls import need_hall
from nobodymeets.plans import need_task


def ranked_plan(hall, task, ranks):
    """The plan in which each robot in turn has the least coming that it can have, by the first such row."""
    starts, goals = need_task(hall, task)
    order = need_ranks(ranks, len(starts))
    rows = {}
    for place, robot in enumerate(order):
        standing = [starts[other] for other in order[place + 1:]]
        row = first_row(hall, starts[robot], goals[robot], barred_cells(list(rows.values()), standing))
        if row is None:
            raise Refused(robot)
        rows[robot] = row
    last = max([len(row) for row in rows.values()])
    return tuple([rows[robot] + rows[robot][-1:] * (last - len(rows[robot])) for robot in range(len(starts))])


def need_ranks(ranks, many):
    """The numbers of so many robots, each once, in any order."""
    if not is_sequence(ranks) or not all([is_number(robot) for robot in ranks]):
        raise InvalidTask(-1)
    if sorted(ranks) != list(range(many)):
        raise InvalidTask(-1)
    return tuple(ranks)


def barred_cells(rows, standing):
    """For each tick the cells that are held by those who go along rows, or stand; the last ones for good."""
    barred = []
    for tick in range(max([len(row) for row in rows], default=1)):
        cells = {cell: True for row in rows for cell in held_in(row, tick)}
        cells.update({cell: True for cell in standing})
        barred.append(cells)
    return barred


def held_in(row, tick):
    """The cells that are held in a tick by who goes along a row, and stays behind its end."""
    last = len(row) - 1
    return (row[min(tick, last)], row[min(tick + 1, last)])


def first_row(hall, start, goal, barred):
    """The first of the rows with the least coming from a start to a goal, that hold no barred cell; or None."""
    since = first_stay(goal, barred)
    if since is None:
        return None
    layers = [{start: True}]
    # Behind the last tick that bars another lot of cells whoever is not at the goal comes farther in each tick.
    while goal not in layers[-1] or len(layers) <= since:
        if len(layers) > len(barred) + hall.cells:
            return None
        layers.append(cells_after(hall, layers[-1], barred_at(barred, len(layers) - 1)))
    return row_through(hall, useful_layers(hall, layers, goal, barred), barred)


def first_stay(goal, barred):
    """The tick from which on a goal is never barred, or None."""
    ticks = [tick for tick, cells in enumerate(barred) if goal in cells]
    if len(ticks) == 0:
        return 0
    return None if ticks[-1] == len(barred) - 1 else ticks[-1] + 1


def barred_at(barred, tick):
    """The cells that are barred in a tick."""
    return barred[min(tick, len(barred) - 1)]


def cells_after(hall, cells, barred):
    """The cells in which one can be a tick behind some cells, if in the tick some are barred."""
    after = {}
    for cell in cells:
        if cell not in barred:
            after.update({other: True for other in (cell,) + hall.followers[cell] if other not in barred})
    return after


def useful_layers(hall, layers, goal, barred):
    """Of each tick's cells those from which one can be at the goal at the last tick."""
    useful = [[goal]]
    for tick in range(len(layers) - 2, -1, -1):
        held = barred_at(barred, tick)
        useful.append([cell for cell in layers[tick] if cell not in held
                       and any([other in (cell,) + hall.followers[cell] for other in useful[-1]])])
    return useful[::-1]


def row_through(hall, useful, barred):
    """The first row that goes along each tick's useful cells."""
    row = [useful[0][0]]
    for cells in useful[1:]:
        row.append(min([other for other in cells if other in (row[-1],) + hall.followers[row[-1]]]))
    return tuple(row)


def rank_bound(hall, robots):
    """The most ticks that a plan by rank of so many robots takes where each has a way past all starts and goals."""
    need_hall(hall)
    if not is_number(robots):
        raise InvalidSize("robots")
    return robots * (hall.cells + 1)
