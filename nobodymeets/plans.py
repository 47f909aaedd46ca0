"""Strict plans: in each tick a robot holds its cells at both ends of the tick, and no two hold a cell in common."""

from nobodymeets.basics import is_index, is_integer, is_sequence
from nobodymeets.errors import InvalidPlan, InvalidSize, InvalidTask, Refused
from nobodymeets.halls import need_hall
from nobodymeets.worlds import is_plan_row, need_plan

MOST_ROBOTS = 6
MOST_STANDINGS = 20000


def need_task(hall, value):
    """Any value as a task: as many starts, unlike, as goals, unlike."""
    need_hall(hall)
    if not is_sequence(value) or len(value) != 2 or not is_sequence(value[0]) or not is_sequence(value[1]):
        raise InvalidTask(-1)
    if not 1 <= len(value[0]) <= MOST_ROBOTS or len(value[0]) != len(value[1]):
        raise InvalidTask(-1)
    starts, goals = value
    for robot, (start, goal) in enumerate(list(zip(starts, goals))):
        if not is_new_cell(hall, start, starts[:robot]) or not is_new_cell(hall, goal, goals[:robot]):
            raise InvalidTask(robot)
    return (tuple(starts), tuple(goals))


def is_new_cell(hall, value, earlier):
    """Whether a value is a cell and not among earlier ones."""
    return is_index(value, hall.cells) and value not in earlier


def plan_clash(hall, plan):
    """The first (tick, one, other, cell) in which both hold the cell, or None."""
    return clash_of(need_plan(hall, plan))


def clash_of(rows):
    """The first clash of a plan in tuples, or None."""
    # A robot stays behind its plan's end, so there is a tick behind the last one, too.
    for tick in range(len(rows[0])):
        for one, row in enumerate(rows):
            for other in range(one + 1, len(rows)):
                cells = [cell for cell in row[tick:tick + 2] if cell in rows[other][tick:tick + 2]]
                if len(cells) > 0:
                    return (tick, one, other, min(cells))
    return None


def plan_holds(hall, task, value):
    """Whether any value is a plan of a task without meeting."""
    starts, goals = need_task(hall, task)
    if not isinstance(value, tuple) or len(value) != len(starts):
        return False
    if not all([isinstance(row, tuple) and is_plan_row(hall, row) for row in value]):
        return False
    if not all([len(row) == len(value[0]) for row in value]):
        return False
    if tuple([row[0] for row in value]) != starts or tuple([row[-1] for row in value]) != goals:
        return False
    return clash_of(value) is None


def need_rows(plan):
    """Rows of any numbers, one or more, alike long, in tuples."""
    if not is_sequence(plan) or len(plan) == 0 or not all([is_number_row(row) for row in plan]):
        raise InvalidPlan(-1)
    if not all([len(row) == len(plan[0]) for row in plan]):
        raise InvalidPlan(-1)
    return tuple([tuple(row) for row in plan])


def is_number_row(value):
    """Whether a value is one or more integers from 0 on."""
    return is_sequence(value) and len(value) > 0 and all([is_integer(cell) and cell >= 0 for cell in value])


def plan_costs(plan):
    """(The sum of all robots' comings, the last one)."""
    comings = [coming_of(row) for row in need_rows(plan)]
    return (sum(comings), max(comings))


def coming_of(row):
    """The first tick from which on a row stays at its last cell."""
    tick = len(row) - 1
    while tick > 0 and row[tick - 1] == row[-1]:
        tick -= 1
    return tick


def joint_plan(hall, task):
    """Some plan without meeting with the least last coming, or None, by all standings, tick by tick."""
    starts, goals = need_task(hall, task)
    came = {starts: None}
    level = [starts]
    while goals not in came and len(level) > 0:
        level = next_standings(hall, came, level)
    if goals not in came:
        return None
    standings = [goals]
    while came[standings[-1]] is not None:
        standings.append(came[standings[-1]])
    return tuple([tuple([standing[robot] for standing in standings[::-1]]) for robot in range(len(starts))])


def next_standings(hall, came, level):
    """The standings that come first in the tick behind those of a level; they are put to those that came."""
    found = []
    for standing in level:
        for after in standings_after(hall, standing):
            if after not in came:
                came[after] = standing
                found.append(after)
                if len(came) > MOST_STANDINGS:
                    raise InvalidSize("standings")
    return found


def standings_after(hall, standing):
    """All standings a tick behind one, itself too: whoever goes, goes into a cell that nobody is in or goes into."""
    rows = [()]
    for cell in standing:
        cells = [cell] + [other for other in hall.followers[cell] if other not in standing]
        rows = [row + (other,) for row in rows for other in cells if other not in row]
    return rows


def single_moves(hall, plan):
    """The moves (robot, cell) into empty cells, one robot at a time, that do just what a plan does."""
    rows = need_plan(hall, plan)
    clash = clash_of(rows)
    if clash is not None:
        raise Refused(clash[0])
    moves = []
    for tick in range(1, len(rows[0])):
        moves.extend([(robot, row[tick]) for robot, row in enumerate(rows) if row[tick] != row[tick - 1]])
    return tuple(moves)


def moves_plan(hall, task, moves):
    """The plan of a task with one move a tick."""
    starts, goals = need_task(hall, task)
    if not is_sequence(moves):
        raise Refused(-1)
    rows = [[start] for start in starts]
    for number, move in enumerate(moves):
        cells = [row[-1] for row in rows]
        if not is_move(hall, cells, move):
            raise Refused(number)
        cells[move[0]] = move[1]
        for robot, cell in enumerate(cells):
            rows[robot].append(cell)
    if tuple([row[-1] for row in rows]) != goals:
        raise Refused(len(moves))
    return tuple([tuple(row) for row in rows])


def is_move(hall, cells, value):
    """Whether a value is a move of one of those in some cells to an empty cell next to it."""
    if not is_sequence(value) or len(value) != 2 or not is_index(value[0], len(cells)):
        return False
    return is_index(value[1], hall.cells) and value[1] in hall.followers[cells[value[0]]] and value[1] not in cells
