"""Who is first: where two robots' routes have cells in common, what of it can be turned, and what stands against it."""

from nobodymeets.basics import came_from, is_index, is_number, is_sequence, row_to, steps_from
from nobodymeets.carried import need_live
from nobodymeets.errors import InvalidIndex, InvalidLot, InvalidSize
from nobodymeets.passings import comings_of, is_plain_visit, is_visit, need_any_routes, need_passings, pairs_of

MOST_VISITS = 12


def need_two(routes, one, other):
    """Routes in tuples, with the numbers of two robots of them."""
    told = need_any_routes(routes)
    if not is_index(one, len(told)):
        raise InvalidIndex(0)
    if not is_index(other, len(told)) or other == one:
        raise InvalidIndex(1)
    return told[one], told[other]


def common_visits(routes, one, other):
    """All (a, b), ascending, such that the one's cell a is the other's cell b."""
    ones, others = need_two(routes, one, other)
    return visits_in(ones, others)


def visits_in(ones, others):
    """All (a, b), ascending, such that cell a of a route is cell b of another one."""
    return tuple([(a, b) for a, cell in enumerate(ones) for b, near in enumerate(others) if cell == near])


def need_few(routes, one, other):
    """The routes of two robots, and their common visits, few enough to look at all lots of them."""
    ones, others = need_two(routes, one, other)
    visits = visits_in(ones, others)
    if len(visits) > MOST_VISITS:
        raise InvalidSize("visits")
    return ones, others, visits


def does_call(visit, other):
    """Whether a common visit calls another one: where the one is first at it, it is at the other, too."""
    return other[0] <= visit[0] + 1 and other[1] >= visit[1] - 1


def call_graph(visits):
    """For each common visit those that it calls."""
    return {visit: [other for other in visits if does_call(visit, other)] for visit in visits}


def is_live_lot(ones, others, visits, lot):
    """Whether both robots, alone in the hall, go through their routes if the one is first at just a lot of visits."""
    for a, b in visits:
        is_first = (a, b) in lot
        if is_first and (b == 0 or a == len(ones) - 1):
            return False
        if not is_first and (a == 0 or b == len(others) - 1):
            return False
    return all([other in lot for visit in lot for other in visits if does_call(visit, other)])


def live_lots(routes, one, other):
    """All lots of common visits, ascending, at which the one can be first so that both go through their routes."""
    ones, others, visits = need_few(routes, one, other)
    lots = [()]
    for visit in visits:
        lots.extend([lot + (visit,) for lot in list(lots)])
    return tuple(sorted([lot for lot in lots if is_live_lot(ones, others, visits, lot)]))


def visit_bundles(routes, one, other):
    """The lots of common visits that call one another, ascending."""
    return bundles_of(need_few(routes, one, other)[2])


def bundles_of(visits):
    """The lots of those of some visits that call one another, by others or not, ascending."""
    graph = call_graph(visits)
    called = {visit: steps_from(graph, visit) for visit in visits}
    lots = {}
    for visit in visits:
        lots[tuple([other for other in visits if other in called[visit] and visit in called[other]])] = True
    return tuple(sorted(list(lots)))


def turning_steps(routes, one, other, lot, aim):
    """Some order in which bundles are turned from a live lot to another one, each lot between live."""
    ones, others, visits = need_few(routes, one, other)
    begin = need_live_lot(ones, others, visits, lot, 0)
    end = need_live_lot(ones, others, visits, aim, 1)
    bundles = bundles_of(visits)
    lost = [bundle for bundle in bundles if bundle[0] in begin and bundle[0] not in end]
    come = [bundle for bundle in bundles if bundle[0] in end and bundle[0] not in begin]
    # What both have in common is live. What is called comes first, and what calls goes first.
    return tuple(called_first(visits, lost)[::-1] + called_first(visits, come))


def need_live_lot(ones, others, visits, lot, at):
    """The visits of a live lot, each once, as keys of a dict; at tells which of a call's lots it is."""
    if not is_sequence(lot) or not all([is_visit(visit) for visit in lot]):
        raise InvalidLot(at)
    found = {(a, b): True for a, b in lot}
    if len(found) != len(lot) or not all([visit in visits for visit in found]):
        raise InvalidLot(at)
    if not is_live_lot(ones, others, visits, found):
        raise InvalidLot(at)
    return found


def called_first(visits, bundles):
    """Bundles in an order in which each one comes behind all of them that it calls."""
    graph = call_graph(visits)
    left = list(bundles)
    order = []
    while len(left) > 0:
        order.append([bundle for bundle in left if does_call_none(graph, bundle, left)][0])
        left = [bundle for bundle in left if bundle != order[-1]]
    return order


def does_call_none(graph, bundle, others):
    """Whether a bundle calls, by others or not, none of some others; as no two call one another, one is so."""
    called = steps_from(graph, bundle[0])
    return not any([other[0] in called for other in others if other != bundle])


def need_turned(routes, passings, one, other, visits):
    """Routes and live passings in tuples, and visits of two robots that are asked for, at which the one is ahead."""
    need_two(routes, one, other)
    both = (need_any_routes(routes), need_passings(routes, passings))
    need_live(both)
    if not is_sequence(visits):
        raise InvalidLot(-1)
    ahead = {(a, b): True for first, a, second, b in pairs_of(both) if (first, second) == (one, other)}
    asked = {}
    for at, visit in enumerate(visits):
        if not is_visit(visit) or (visit[0], visit[1]) not in ahead or (visit[0], visit[1]) in asked:
            raise InvalidLot(at)
        asked[(visit[0], visit[1])] = True
    return both, list(asked)


def turned_paper(routes, passings, one, other, visits):
    """Passings in which the other is first at some visits at which the one was, or what stands against it."""
    both, asked = need_turned(routes, passings, one, other, visits)
    for visit in asked:
        if does_stand(both[0], one, other, visit):
            return ("stands", visit)
    graph = waiting_graph(both, one, other, asked)
    for a, b in asked:
        came = came_from(graph, [(one, a)])
        if (other, b + 1) in came:
            return ("way", tuple(row_to(came, (other, b + 1))))
    return ("live", turned_passings(both, one, other, asked))


def does_stand(routes, one, other, visit):
    """Whether at a common visit the one stands at its begin, or the other for good."""
    return visit[0] == 0 or visit[1] == len(routes[other]) - 1


def waiting_graph(both, one, other, asked):
    """For each coming those that wait for it: the robot's own next, and whoever is behind it at the cell that it
    leaves, by other visits than those asked for."""
    turned = {(one, a, other, b): True for a, b in asked}
    graph = {}
    for robot, visit in comings_of(both[0]):
        graph[(robot, visit)] = [(robot, visit + 1)] if visit + 1 < len(both[0][robot]) else []
    for first, a, second, b in pairs_of(both):
        if (first, a, second, b) not in turned:
            graph[(first, a + 1)].append((second, b))
    return graph


def turned_passings(both, one, other, asked):
    """Passings in tuples in which the other is first at the visits asked for, all else as it was."""
    turned = {((one, a), (other, b)): True for a, b in asked}
    rows = []
    for cell, row in both[1]:
        order = []
        for at, visit in enumerate(row):
            ahead = [near for near in row[:at] if (near, visit) not in turned]
            ahead.extend([near for near in row[at + 1:] if (visit, near) in turned])
            order.append((len(ahead), visit))
        rows.append((cell, tuple([visit for _, visit in sorted(order)])))
    return tuple(rows)


def turned_holds(routes, passings, one, other, visits, value):
    """Whether any value is a paper that turned_paper may tell, with any such visit, any such way."""
    both, asked = need_turned(routes, passings, one, other, visits)
    if not isinstance(value, tuple) or len(value) != 2:
        return False
    if value[0] == "stands":
        return is_plain_visit(value[1]) and value[1] in asked and does_stand(both[0], one, other, value[1])
    graph = waiting_graph(both, one, other, asked)
    if value[0] == "way":
        return is_waiting_way(graph, value[1]) and is_barring(one, other, asked, value[1])
    if value[0] != "live" or any([does_stand(both[0], one, other, visit) for visit in asked]):
        return False
    if any([(other, b + 1) in came_from(graph, [(one, a)]) for a, b in asked]):
        return False
    return are_plain_rows(value[1]) and value[1] == turned_passings(both, one, other, asked)


def is_waiting_way(graph, value):
    """Whether any value is one or more comings, each next one waiting for the one before."""
    if not isinstance(value, tuple) or len(value) == 0 or not all([is_plain_visit(coming) for coming in value]):
        return False
    if not all([coming in graph for coming in value]):
        return False
    return all([after in graph[coming] for coming, after in zip(value, value[1:])])


def is_barring(one, other, asked, comings):
    """Whether comings lead from the one's at a visit asked for to the other's behind it."""
    return any([comings[0] == (one, a) and comings[-1] == (other, b + 1) for a, b in asked])


def are_plain_rows(value):
    """Whether any value is pairs of a number and a row of pairs of numbers, in tuples."""
    return isinstance(value, tuple) and all([is_plain_cell_row(row) for row in value])


def is_plain_cell_row(value):
    """Whether any value is a pair of a number and a row of pairs of numbers, in tuples."""
    if not isinstance(value, tuple) or len(value) != 2 or not is_number(value[0]) or not isinstance(value[1], tuple):
        return False
    return all([is_plain_visit(visit) for visit in value[1]])
