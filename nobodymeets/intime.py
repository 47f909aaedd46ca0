"""Loose plans of so many ticks with the fewest moves, and heights in time that show it.

Each cell has at each tick a door in, (tick, cell, 0), where one comes to it, and a door out, (tick, cell, 1)."""

from nobodymeets.basics import is_number, row_to
from nobodymeets.flows import most_rows, need_ticks
from nobodymeets.plans import need_task
from nobodymeets.unnamed import do_bar, is_loose_plan

# The doors from which all robots come and to which all go.
ALL_OUT = (-1, 0, 1)
ALL_IN = (-1, 0, 0)


def within_paper(hall, task, ticks):
    """A loose plan of so many ticks with the fewest moves and heights that show it, or gates, fewer than robots."""
    starts, goals = need_task(hall, task)
    need_ticks(ticks)
    rows, gates = most_rows(hall, (starts, goals), ticks)
    if len(rows) < len(starts):
        return ("gates", gates)
    left = left_steps(hall, (starts, goals), ticks)
    plan = tuple([row_along(left, start, ticks) for start in starts])
    heights = door_heights(hall, left, ticks)
    ins, outs = [tuple([tuple([heights[(tick, cell, door)] for cell in range(hall.cells)])
                        for tick in range(ticks + 1)]) for door in (0, 1)]
    return ("within", plan, ins, outs)


def steps_in_time(hall, ticks):
    """All steps from door to door, each with its moves: a wait has none, a way has one."""
    steps = {}
    for tick in range(ticks + 1):
        for cell in range(hall.cells):
            steps[(tick, cell, 0)] = {(tick, cell, 1): 0}
            steps[(tick, cell, 1)] = {}
            if tick < ticks:
                steps[(tick, cell, 1)] = {(tick + 1, other, 0): 1 for other in hall.followers[cell]}
                steps[(tick, cell, 1)][(tick + 1, cell, 0)] = 0
    return steps


def left_steps(hall, task, ticks):
    """What is left of all steps when each robot is led to a goal, by the fewest moves: steps gone are turned about.

    One robot more is led along a row with the fewest moves, perhaps back along those of others, which then are led
    otherwise."""
    left = steps_in_time(hall, ticks)
    left[ALL_OUT] = {(0, start, 0): 0 for start in task[0]}
    left[ALL_IN] = {}
    for goal in task[1]:
        left[(ticks, goal, 1)][ALL_IN] = 0
    for _ in task[0]:
        row = cheapest_row(left, ALL_OUT, ALL_IN)
        for one, other in zip(row, row[1:]):
            moves = left[one][other]
            del left[one][other]
            left[other][one] = -moves
    return left


def cheapest_row(graph, start, goal):
    """A row of steps with the fewest moves from a start to a goal; no ring of steps has fewer than none."""
    moves = {start: 0}
    came = {start: None}
    queue = [start]
    at = 0
    while at < len(queue):
        one = queue[at]
        for other, more in graph[one].items():
            if other not in moves or moves[one] + more < moves[other]:
                moves[other] = moves[one] + more
                came[other] = one
                queue.append(other)
        at += 1
    return row_to(came, goal)


def row_along(left, start, ticks):
    """The cells of the robot from a start, along the steps that were gone."""
    row = [start]
    for tick in range(ticks):
        # A step that was gone is there turned about.
        door = (tick, row[-1], 1)
        row.append([cell for later, cell, into in left if (later, into) == (tick + 1, 0)
                    and door in left[(later, cell, into)]][0])
    return tuple(row)


def door_heights(hall, left, ticks):
    """For each door a number, by which each step that is left, and each step between ticks, falls by its moves at
    most."""
    steps = steps_in_time(hall, ticks)
    falls = []
    for one in steps:
        falls.extend([(one, other, moves) for other, moves in left[one].items() if other in steps])
        if one[2] == 1:
            falls.extend([(one, other, moves) for other, moves in steps[one].items()])
    falls = sorted(falls, reverse=True)
    heights = {door: 0 for door in steps}
    changed = True
    while changed:
        changed = False
        for one, other, moves in falls:
            if heights[one] > heights[other] + moves:
                heights[one] = heights[other] + moves
                changed = True
    least = min(list(heights.values()))
    return {door: height - least for door, height in heights.items()}


def within_holds(hall, task, ticks, value):
    """Whether any value is a paper that within_paper may tell, with any such plan, heights and gates."""
    told = need_task(hall, task)
    need_ticks(ticks)
    if not isinstance(value, tuple):
        return False
    if len(value) == 2:
        return value[0] == "gates" and do_bar(hall, told, ticks, value[1])
    if len(value) != 4 or value[0] != "within" or not is_loose_plan(hall, told, value[1]):
        return False
    plan, ins, outs = value[1:]
    if len(plan[0]) != ticks + 1 or not are_heights(hall, ticks, ins) or not are_heights(hall, ticks, outs):
        return False
    if not do_fall(hall, ticks, ins, outs):
        return False
    moves = sum([1 for row in plan for cell, after in zip(row, row[1:]) if after != cell])
    return moves == told_moves(told, ins, outs)


def are_heights(hall, ticks, value):
    """Whether any value is for each tick a number for each cell."""
    if not isinstance(value, tuple) or len(value) != ticks + 1:
        return False
    if not all([isinstance(row, tuple) and len(row) == hall.cells for row in value]):
        return False
    return all([is_number(height) for row in value for height in row])


def do_fall(hall, ticks, ins, outs):
    """Whether no out is more than the next tick's in of its cell, nor by more than 1 more than that of a next one."""
    for tick in range(ticks):
        if any([out > after for out, after in zip(outs[tick], ins[tick + 1])]):
            return False
        if any([outs[tick][one] > ins[tick + 1][other] + 1 for one, other in hall.ways]):
            return False
    return True


def told_moves(task, ins, outs):
    """The starts' ins at first, less the goals' outs at last, less each fall from in to out."""
    begin = sum([ins[0][cell] for cell in task[0]])
    end = sum([outs[-1][cell] for cell in task[1]])
    falls = sum([max(into - out, 0) for row, after in zip(ins, outs) for into, out in zip(row, after)])
    return begin - end - falls
