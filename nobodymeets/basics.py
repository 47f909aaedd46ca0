"""What all modules ask of any value (whether it is a number, a sequence, a lot), and rows through graphs."""

# The doors from which all rows come and to which all go, where rows are put into a graph.
ALL_OUT = ((), 1)
ALL_IN = ((), 0)


def is_integer(value):
    """Whether a value is an integer; a bool is none."""
    return isinstance(value, int) and not isinstance(value, bool)


def is_number(value):
    """Whether a value is an integer from 0 on."""
    return is_integer(value) and value >= 0


def is_count(value):
    """Whether a value is an integer from 1 on."""
    return is_integer(value) and value >= 1


def is_index(value, many):
    """Whether a value is the number of one of so many things."""
    return is_integer(value) and 0 <= value < many


def is_sequence(value):
    """Whether a value is a list or a tuple."""
    return isinstance(value, (list, tuple))


def is_rising(row):
    """Whether each thing of a row is greater than the one ahead."""
    return all([one < other for one, other in zip(row, row[1:])])


def is_lot(value, many):
    """Whether a value is a tuple of unlike, ascending numbers of so many things."""
    if not isinstance(value, tuple):
        return False
    return all([is_index(number, many) for number in value]) and is_rising(value)


def steps_from(graph, start):
    """The fewest steps from a start to each thing to which a graph leads from it, in the order of coming."""
    return steps_from_any(graph, [start])


def steps_from_any(graph, starts):
    """The fewest steps from any of some starts to each thing to which a graph leads, in the order of coming."""
    came = came_from(graph, starts)
    steps = {}
    for one, ahead in came.items():
        steps[one] = 0 if ahead is None else steps[ahead] + 1
    return steps


def came_from(graph, starts):
    """Each thing to which a graph leads from any of some starts, in the order of coming, with the one ahead on a
    shortest row to it, None for the starts."""
    came = {start: None for start in starts}
    queue = list(came)
    at = 0
    while at < len(queue):
        one = queue[at]
        for other in graph[one]:
            if other not in came:
                came[other] = one
                queue.append(other)
        at += 1
    return came


def in_order(graph):
    """The things of a graph, each behind all that lead to it; without those on rings, and all to which rings lead."""
    left = {one: 0 for one in graph}
    for others in graph.values():
        for other in others:
            left[other] += 1
    queue = [one for one in graph if left[one] == 0]
    at = 0
    while at < len(queue):
        one = queue[at]
        for other in graph[one]:
            left[other] -= 1
            if left[other] == 0:
                queue.append(other)
        at += 1
    return queue


def row_to(came, goal):
    """The row along which a thing was come to, by the one ahead of each."""
    row = [goal]
    while came[row[-1]] is not None:
        row.append(came[row[-1]])
    return row[::-1]


def shortest_row(graph, start, goal):
    """A shortest row from a start to a goal, each thing led to by the graph from the one ahead, or None."""
    came = {start: None}
    queue = [start]
    at = 0
    while at < len(queue) and goal not in came:
        one = queue[at]
        for other in graph[one]:
            if other not in came:
                came[other] = one
                queue.append(other)
        at += 1
    return row_to(came, goal) if goal in came else None


def turn_shortest_row(graph, start, goal):
    """Turns a shortest row about, in a graph of dicts of dicts; whether there was one.

    A row that is looked for later may then go back along this one, which so is led otherwise."""
    row = shortest_row(graph, start, goal)
    if row is None:
        return False
    for one, other in zip(row, row[1:]):
        del graph[one][other]
        graph[other][one] = True
    return True


def rows_apart(graph, starts, goals):
    """(Rows of things from starts to goals in a graph, no thing in two of them, as many as there can be; as many
    things, so that each row from a start to a goal goes through one of them), both in lists.

    Each thing has a door in, (thing, 0), and a door out, (thing, 1); one row goes from the one to the other. Rows are
    put in one by one, each perhaps back along those before, which then are led otherwise."""
    doors = door_graph(graph, starts, goals)
    while turn_shortest_row(doors, ALL_OUT, ALL_IN):
        pass
    used = {one: other for one in graph for other in graph[one] if (one, 1) in doors[(other, 0)]}
    rows = [row_along(used, start) for start in starts if ALL_OUT in doors[(start, 0)]]
    return rows, things_between(graph, starts, doors)


def door_graph(graph, starts, goals):
    """To which doors one comes from each: starts are led to from a door of their own, goals lead to another one."""
    doors = {ALL_OUT: {(start, 0): True for start in starts}, ALL_IN: {}}
    for one in graph:
        doors[(one, 0)] = {(one, 1): True}
        doors[(one, 1)] = {(other, 0): True for other in graph[one]}
    for goal in goals:
        doors[(goal, 1)][ALL_IN] = True
    return doors


def row_along(used, start):
    """The row from a start on, as far as used links lead."""
    row = [start]
    while row[-1] in used:
        row.append(used[row[-1]])
    return row


def things_between(graph, starts, doors):
    """The things into which one can still come when no row more can be put in, but not out again.

    Links between things never bar the search, so it is these things alone that stop it."""
    led = {door: list(others) for door, others in doors.items()}
    for one in graph:
        led[(one, 1)].extend([(other, 0) for other in graph[one]])
    led[ALL_OUT].extend([(start, 0) for start in starts])
    reached = steps_from(led, ALL_OUT)
    return [one for one in graph if (one, 0) in reached and (one, 1) not in reached]
