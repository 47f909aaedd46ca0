"""Robots without names: loose plans, in which it does not matter which robot comes to which goal."""

from nobodymeets.basics import came_from, is_lot, is_number, row_to, rows_apart, steps_from, steps_from_any
from nobodymeets.charge import turned_graph
from nobodymeets.dealing import least_dealing
from nobodymeets.errors import Refused
from nobodymeets.flows import are_gates, do_stop, tick_graph
from nobodymeets.passings import timed_passings
from nobodymeets.plans import is_move, need_task
from nobodymeets.prices import way_table
from nobodymeets.worlds import is_plan_row, need_plan, way_of


def loose_fault(hall, plan):
    """What is first wrong with a plan as a loose one, or None: two that are in one cell, or a ring that turns."""
    return fault_of(need_plan(hall, plan))


def fault_of(rows):
    """What is first wrong with a plan in tuples as a loose one, or None."""
    for tick in range(len(rows[0])):
        met = first_meeting(rows, tick)
        if met is not None:
            return ("meet", tick) + met
        rings = rings_at(rows, tick)
        if len(rings) > 0:
            return ("ring", tick, rings[0])
    return None


def first_meeting(rows, tick):
    """The first two (one, other) that are in one cell at a tick, or None."""
    for one, row in enumerate(rows):
        for other in range(one + 1, len(rows)):
            if rows[other][tick] == row[tick]:
                return (one, other)
    return None


def rings_at(rows, tick):
    """The rings that turn from a tick to the next, at which no two are in one cell, each by its least robot."""
    if tick == len(rows[0]) - 1:
        return []
    owners = {row[tick]: robot for robot, row in enumerate(rows)}
    ahead = [None if row[tick + 1] == row[tick] else owners.get(row[tick + 1]) for row in rows]
    rings = []
    for robot in range(len(rows)):
        ring = [robot]
        other = ahead[robot]
        while other is not None and other not in ring:
            ring.append(other)
            other = ahead[other]
        if other == robot and robot == min(ring):
            rings.append(tuple(ring))
    return rings


def turned_plan(hall, plan):
    """The plan in which all rings are turned away: who is in one stays, and goes on as who came to its cell did."""
    rows = need_plan(hall, plan)
    for tick in range(len(rows[0])):
        if first_meeting(rows, tick) is not None:
            raise Refused(tick)
    return without_rings(rows)


def without_rings(rows):
    """A plan in tuples in which no two are in one cell, with all rings turned away, tick by tick."""
    plan = list(rows)
    for tick in range(len(rows[0]) - 1):
        for ring in rings_at(plan, tick):
            rests = {robot: plan[robot][tick + 1:] for robot in ring}
            for at, robot in enumerate(ring):
                plan[robot] = plan[robot][:tick + 1] + rests[ring[at - 1]]
    return tuple(plan)


def loose_passings(hall, plan):
    """(Routes, passings) of a loose plan, visits by time."""
    rows = need_plan(hall, plan)
    fault = fault_of(rows)
    if fault is not None:
        raise Refused(fault[1])
    return (tuple([way_of(row) for row in rows]), timed_passings(rows))


def least_steps(hall, task):
    """The paper of a dealing of goals to starts with the least sum of steps."""
    return least_dealing(way_table(hall, task[0], task[1]))


def shut_paper(hall, starts, robots):
    """The paper of all cells that some robots reach, who are more than the goals among these."""
    reached = steps_from_any(hall.followers, [starts[robot] for robot in robots])
    return ("shut", tuple(sorted(list(reached))))


def unnamed_paper(hall, task):
    """A loose plan with the fewest ticks and gates that show it, or a lot with too few goals that no way leaves."""
    starts, goals = need_task(hall, task)
    dealt = least_steps(hall, (starts, goals))
    if dealt[0] == "short":
        return shut_paper(hall, starts, dealt[1])
    gates = ()
    ticks = 0
    while True:
        rows, more = rows_apart(tick_graph(hall, ticks), [(0, start) for start in starts],
                                [(ticks, goal) for goal in goals])
        if len(rows) == len(starts):
            plan = without_rings([tuple([cell for _, cell in row]) for row in rows])
            return ("plan", plan, gates)
        gates = tuple(sorted(more))
        ticks += 1


def unnamed_holds(hall, task, value):
    """Whether any value is a paper that unnamed_paper may tell, with any such plan, gates and lot."""
    told = need_task(hall, task)
    if not isinstance(value, tuple):
        return False
    if len(value) == 2:
        return value[0] == "shut" and is_shut(hall, told, value[1])
    if len(value) != 3 or value[0] != "plan" or not is_loose_plan(hall, told, value[1]):
        return False
    ticks = len(value[1][0]) - 1
    if ticks == 0:
        return isinstance(value[2], tuple) and len(value[2]) == 0
    return do_bar(hall, told, ticks - 1, value[2])


def do_bar(hall, task, ticks, value):
    """Whether any value is gates, fewer than robots, through which each row of so many ticks goes."""
    if not are_gates(hall, ticks, value) or len(value) >= len(task[0]):
        return False
    return do_stop(hall, task[0], task[1], ticks, value)


def is_shut(hall, task, value):
    """Whether any value is a lot of cells that no way leaves, with more starts than goals in it."""
    if not is_lot(value, hall.cells) or not all([cell in value for one in value for cell in hall.followers[one]]):
        return False
    return len([cell for cell in task[0] if cell in value]) > len([cell for cell in task[1] if cell in value])


def is_loose_plan(hall, task, value):
    """Whether any value is a loose plan from starts, robot by robot, to goals, in any order."""
    if not isinstance(value, tuple) or len(value) != len(task[0]):
        return False
    if not all([isinstance(row, tuple) and is_plan_row(hall, row) for row in value]):
        return False
    if not all([len(row) == len(value[0]) for row in value]):
        return False
    if tuple([row[0] for row in value]) != task[0] or sorted([row[-1] for row in value]) != sorted(task[1]):
        return False
    return fault_of(value) is None


def moves_paper(hall, task):
    """The fewest moves into empty cells, one robot at a time, and heights that show it; or a lot as unnamed_paper."""
    starts, goals = need_task(hall, task)
    dealt = least_steps(hall, (starts, goals))
    if dealt[0] == "short":
        return shut_paper(hall, starts, dealt[1])
    ways = []
    for robot, start in enumerate(starts):
        came = came_from(hall.followers, [start])
        ways.append(row_to(came, goals[dealt[1][robot]])[1:])
    return ("moves", moves_along(starts, ways), heights_over(hall, goals, dealt[2]))


def moves_along(starts, ways):
    """Moves into empty cells by which robots go along ways that make a least sum of steps together.

    These steps have no ring, so whoever is in the way is followed up to one with an empty cell ahead; who is in the
    way and has come takes over the rest of the way that is to go through its cell."""
    cells = list(starts)
    rests = [list(way) for way in ways]
    moves = []
    while any([len(rest) > 0 for rest in rests]):
        robot = [one for one, rest in enumerate(rests) if len(rest) > 0][0]
        while rests[robot][0] in cells:
            other = cells.index(rests[robot][0])
            if len(rests[other]) == 0:
                rests[other] = rests[robot][1:]
                rests[robot] = rests[robot][:1]
            robot = other
        cells[robot] = rests[robot].pop(0)
        moves.append((robot, cells[robot]))
    return tuple(moves)


def heights_over(hall, goals, prices):
    """For each cell the least of steps to a goal with its price; where no goal is reached, the greatest of all."""
    graph = turned_graph(hall)
    least = {}
    for goal, price in zip(goals, prices):
        for cell, steps in steps_from(graph, goal).items():
            least[cell] = min(least.get(cell, steps + price), steps + price)
    greatest = max(list(least.values()))
    return tuple([least.get(cell, greatest) for cell in range(hall.cells)])


def moves_hold(hall, task, value):
    """Whether any value is a paper that moves_paper may tell, with any such moves, heights and lot."""
    starts, goals = need_task(hall, task)
    if not isinstance(value, tuple):
        return False
    if len(value) == 2:
        return value[0] == "shut" and is_shut(hall, (starts, goals), value[1])
    if len(value) != 3 or value[0] != "moves" or not do_lead(hall, (starts, goals), value[1]):
        return False
    heights = value[2]
    if not isinstance(heights, tuple) or len(heights) != hall.cells:
        return False
    if not all([is_number(height) for height in heights]):
        return False
    if not all([heights[one] <= heights[other] + 1 for one, other in hall.ways]):
        return False
    return sum([heights[cell] for cell in starts]) - sum([heights[cell] for cell in goals]) == len(value[1])


def do_lead(hall, task, value):
    """Whether any value is moves into empty cells, one robot at a time, from starts to goals."""
    if not isinstance(value, tuple):
        return False
    cells = list(task[0])
    for move in value:
        if not isinstance(move, tuple) or not is_move(hall, cells, move):
            return False
        cells[move[0]] = move[1]
    return sorted(cells) == sorted(task[1])
