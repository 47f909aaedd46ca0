"""Best plans: those with the least sum of comings, and the trees of bars that show that no plan has a lesser one."""

from heapq import heappop, heappush

from nobodymeets.basics import is_count, is_index, is_number, is_sequence
from nobodymeets.errors import InvalidIndex, InvalidSize
from nobodymeets.halls import need_cell, need_hall
from nobodymeets.plans import need_task, plan_costs, plan_holds
from nobodymeets.ranked import held_in

MOST_TICK = 1000
MOST_NODES = 2000
LEAF = ("leaf",)


def need_barred(hall, barred):
    """Barred pairs (cell, tick), as keys of a dict."""
    if not is_sequence(barred):
        raise InvalidIndex(-1)
    for at, pair in enumerate(barred):
        if not is_bar(hall, pair):
            raise InvalidIndex(at)
    return {(cell, tick): True for cell, tick in barred}


def is_bar(hall, value):
    """Whether a value is a cell and a tick."""
    if not is_sequence(value) or len(value) != 2:
        return False
    return is_index(value[0], hall.cells) and is_index(value[1], MOST_TICK + 1)


def lone_coming(hall, start, goal, barred):
    """The least coming of a robot alone that holds no barred cell in a tick, and stays at its goal; or None."""
    need_hall(hall)
    need_cell(hall, start, 0)
    need_cell(hall, goal, 1)
    return coming_of(hall, start, goal, need_barred(hall, barred))


def coming_of(hall, start, goal, bars):
    """The least coming of a robot alone, or None; bars are the keys of a dict."""
    layers = layers_to(hall, start, goal, bars)
    return None if layers is None else len(layers) - 1


def layers_to(hall, start, goal, bars):
    """By each tick up to the least coming the cells in which a robot alone can be; None if it never comes."""
    # Whoever is to stay at the goal comes behind the last tick in which it is barred.
    since = max([tick + 1 for cell, tick in bars if cell == goal], default=0)
    far = max([tick + 1 for _, tick in bars], default=0) + hall.cells
    layers = [[start]]
    while len(layers) <= since or goal not in layers[-1]:
        if len(layers) > far or len(layers[-1]) == 0:
            return None
        tick = len(layers) - 1
        after = {}
        for cell in layers[-1]:
            if (cell, tick) not in bars:
                after.update({other: True for other in (cell,) + hall.followers[cell] if (other, tick) not in bars})
        layers.append(list(after))
    return layers


def best_plan(hall, task, nodes):
    """A plan with the least sum and a tree that shows it, a robot that has no way, or a bound for the sum."""
    starts, goals = need_task(hall, task)
    if not is_count(nodes) or nodes > MOST_NODES:
        raise InvalidSize("nodes")
    for robot, (start, goal) in enumerate(list(zip(starts, goals))):
        if coming_of(hall, start, goal, {}) is None:
            return ("none", robot)
    return search_best(hall, (starts, goals), nodes)


def search_best(hall, task, nodes):
    """The paper of a task in which each robot has a way: the least open node is split at a clash, again and again.

    A node is the row of bars (robot, cell, tick) on the way to it, and each robot's layers and row under them."""
    rows = []
    for robot in range(len(task[0])):
        rows.append(lone_row(hall, task, robot, (), rows))
    splits = [None]
    queue = []
    push_node(queue, 0, (), rows)
    least = 0
    while len(queue) > 0:
        least, _, number, bars, rows, clashes = heappop(queue)
        if len(clashes) == 0:
            return ("best", told_plan(rows), told_tree(splits))
        clash = worst_clash(rows, clashes)
        if clash is None or len(splits) + 2 > nodes:
            return ("bound", least, told_tree(splits))
        splits[number] = (clash, len(splits))
        for robot in clash[:2]:
            bar = (robot,) + clash[2:]
            row = lone_row(hall, task, robot, bars + (bar,), rows)
            if row is not None:
                push_node(queue, len(splits), bars + (bar,), rows[:robot] + [row] + rows[robot + 1:])
            splits.append(None)
    # Each leaf has a robot that never comes, so there is no plan at all.
    return ("bound", least, told_tree(splits))


def push_node(queue, number, bars, rows):
    """Puts a node to those that are open: the least sum comes first, then the fewest clashes."""
    total = sum([len(row) - 1 for row, _ in rows])
    clashes = clashes_of(rows)
    heappush(queue, (total, len(clashes), number, bars, rows, clashes))


def lone_row(hall, task, robot, bars, rows):
    """(A row of the least coming under a robot's bars that clashes in few ticks with the others' rows, by each tick the
    cell in which each such row is, or None); None if the robot never comes."""
    own = {(cell, tick): True for other, cell, tick in bars if other == robot}
    layers = layers_to(hall, task[0][robot], task[1][robot], own)
    if layers is None:
        return None
    others = [row for other, (row, _) in enumerate(rows) if other != robot]
    row = fewest_clashes(hall, layers, own, others, task[1][robot])
    return row, narrow_cells(hall, layers, own, task[1][robot])


def fewest_clashes(hall, layers, bars, others, goal):
    """A row along layers to a goal, that clashes in the fewest ticks with other rows, told by lesser ones up to each
    cell."""
    counts = {layers[0][0]: 0}
    ahead = []
    for tick in range(len(layers) - 1):
        after = {}
        came = {}
        for cell, count in counts.items():
            if (cell, tick) in bars:
                continue
            for other in (cell,) + hall.followers[cell]:
                more = count + clashes_in(others, tick, cell, other)
                if (other, tick) not in bars and (other not in after or more < after[other]):
                    after[other] = more
                    came[other] = cell
        counts = after
        ahead.append(came)
    row = [goal]
    for came in ahead[::-1]:
        row.append(came[row[-1]])
    return tuple(row[::-1])


def clashes_in(rows, tick, cell, other):
    """With how many rows one clashes in a tick from a cell to an other."""
    return len([row for row in rows if cell in held_in(row, tick) or other in held_in(row, tick)])


def narrow_cells(hall, layers, bars, goal):
    """By each tick the cell in which all rows along layers to a goal are, or None."""
    cells = [goal]
    narrow = [goal]
    for tick in range(len(layers) - 2, -1, -1):
        cells = [cell for cell in layers[tick] if (cell, tick) not in bars
                 and any([other in (cell,) + hall.followers[cell] and (other, tick) not in bars for other in cells])]
        narrow.append(cells[0] if len(cells) == 1 else None)
    return tuple(narrow[::-1])


def clashes_of(rows):
    """The first clash (one, other, cell, tick) in each cell of each two robots."""
    found = {}
    last = max([len(row) for row, _ in rows])
    for tick in range(last):
        held = [held_in(row, tick) for row, _ in rows]
        for other in range(len(rows)):
            for one in range(other):
                for cell in held[one]:
                    if cell in held[other]:
                        found.setdefault((one, other, cell), tick)
    return [(one, other, cell, tick) for (one, other, cell), tick in found.items()]


def worst_clash(rows, clashes):
    """The first clash of those that make most of both robots late, or None if all are too late for a bar."""
    found = [(-late_sides(rows, clash), clash[3], clash) for clash in clashes if clash[3] <= MOST_TICK]
    return min(found)[2] if len(found) > 0 else None


def late_sides(rows, clash):
    """How many of both robots of a clash surely come later if they must not hold its cell in its tick."""
    one, other, cell, tick = clash
    return len([robot for robot in (one, other) if cell in held_in(rows[robot][1], tick)])


def told_plan(rows):
    """The plan of rows, told to the last coming."""
    last = max([len(row) for row, _ in rows])
    return tuple([row + row[-1:] * (last - len(row)) for row, _ in rows])


def told_tree(splits):
    """The tree of nodes: each is None, or (its clash, the number of the node to the left, the next one being right)."""
    trees = [LEAF] * len(splits)
    for number in range(len(splits) - 1, -1, -1):
        if splits[number] is not None:
            clash, left = splits[number]
            trees[number] = ("split",) + clash + (trees[left], trees[left + 1])
    return trees[0]


def best_holds(hall, task, value):
    """Whether any value is a paper that best_plan may tell, with any robot without a way, and any bound."""
    starts, goals = need_task(hall, task)
    if not isinstance(value, tuple):
        return False
    if len(value) == 2:
        return value[0] == "none" and is_index(value[1], len(starts)) and coming_of(
            hall, starts[value[1]], goals[value[1]], {}) is None
    if len(value) != 3:
        return False
    if value[0] == "bound":
        return is_number(value[1]) and does_bound(hall, (starts, goals), value[1], value[2])
    if value[0] != "best" or not plan_holds(hall, (starts, goals), value[1]):
        return False
    return does_bound(hall, (starts, goals), plan_costs(value[1])[0], value[2])


def does_bound(hall, task, least, value):
    """Whether any value is a tree in each leaf of which lone comings together are no less than a sum."""
    begin = [coming_of(hall, start, goal, {}) for start, goal in zip(task[0], task[1])]
    queue = [(value, (), begin)]
    while len(queue) > 0:
        tree, bars, comings = queue.pop()
        if not isinstance(tree, tuple):
            return False
        if len(tree) == 1:
            if tree[0] != "leaf" or is_below(comings, least):
                return False
        elif not is_split(hall, len(begin), tree):
            return False
        else:
            for robot, below in ((tree[1], tree[5]), (tree[2], tree[6])):
                more = bars + ((robot, tree[3], tree[4]),)
                own = {(cell, tick): True for other, cell, tick in more if other == robot}
                coming = coming_of(hall, task[0][robot], task[1][robot], own)
                queue.append((below, more, comings[:robot] + [coming] + comings[robot + 1:]))
    return True


def is_below(comings, least):
    """Whether comings, if all come, are together less than a sum."""
    return None not in comings and sum(comings) < least


def is_split(hall, many, value):
    """Whether a tuple is a split of two of so many robots, with anything below it."""
    if len(value) != 7 or value[0] != "split" or not is_index(value[1], many) or not is_index(value[2], many):
        return False
    return value[1] != value[2] and is_index(value[3], hall.cells) and is_index(value[4], MOST_TICK + 1)
