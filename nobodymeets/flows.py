"""Rows of robots without names, as many as there can be in so many ticks, and the gates that let no more through."""

from nobodymeets.basics import is_index, is_rising, rows_apart, steps_from_any
from nobodymeets.errors import InvalidSize
from nobodymeets.plans import need_task
from nobodymeets.worlds import is_plan_row

MOST_TICKS = 40


def need_ticks(ticks):
    """Refuses whatever is no number of ticks up to 40."""
    if not is_index(ticks, MOST_TICKS + 1):
        raise InvalidSize("ticks")


def tick_graph(hall, ticks):
    """To which (tick, cell) one comes from each in the next tick, by waiting or by a way."""
    graph = {}
    for tick in range(ticks + 1):
        for cell in range(hall.cells):
            cells = (cell,) + hall.followers[cell] if tick < ticks else ()
            graph[(tick, cell)] = [(tick + 1, other) for other in cells]
    return graph


def most_rows(hall, task, ticks):
    """As many rows from starts to goals as there can be, and as many gates through which each such row goes."""
    starts, goals = need_task(hall, task)
    need_ticks(ticks)
    rows, gates = rows_apart(tick_graph(hall, ticks), [(0, start) for start in starts],
                             [(ticks, goal) for goal in goals])
    return (tuple([tuple([cell for _, cell in row]) for row in rows]), tuple(sorted(gates)))


def rows_hold(hall, task, ticks, value):
    """Whether any value is a pair of rows and gates that most_rows may tell."""
    starts, goals = need_task(hall, task)
    need_ticks(ticks)
    if not isinstance(value, tuple) or len(value) != 2:
        return False
    rows, gates = value
    if not are_rows(hall, starts, goals, ticks, rows) or not are_gates(hall, ticks, gates):
        return False
    return len(rows) == len(gates) and do_stop(hall, starts, goals, ticks, gates)


def are_rows(hall, starts, goals, ticks, value):
    """Whether any value is rows of so many ticks from starts to goals, no two in one cell at a tick."""
    if not isinstance(value, tuple) or not all([isinstance(row, tuple) and is_plan_row(hall, row) for row in value]):
        return False
    if not all([len(row) == ticks + 1 and row[0] in starts and row[-1] in goals for row in value]):
        return False
    taken = {(tick, cell): True for row in value for tick, cell in enumerate(row)}
    return len(taken) == len(value) * (ticks + 1)


def are_gates(hall, ticks, value):
    """Whether any value is pairs (tick, cell) of so many ticks, ascending."""
    return isinstance(value, tuple) and all([is_gate(hall, ticks, gate) for gate in value]) and is_rising(value)


def is_gate(hall, ticks, value):
    """Whether any value is a pair of a tick and a cell."""
    if not isinstance(value, tuple) or len(value) != 2:
        return False
    return is_index(value[0], ticks + 1) and is_index(value[1], hall.cells)


def do_stop(hall, starts, goals, ticks, gates):
    """Whether each row of so many ticks from a start to a goal goes through a gate."""
    graph = tick_graph(hall, ticks)
    left = {place: [other for other in graph[place] if other not in gates] for place in graph}
    reached = steps_from_any(left, [(0, start) for start in starts if (0, start) not in gates])
    return not any([(ticks, goal) in reached for goal in goals])
