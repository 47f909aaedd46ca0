"""Facts: what is known of visits that are over, and who may be told by it where to go."""

from nobodymeets.basics import is_index, is_sequence, steps_from_any
from nobodymeets.carried import turned_web
from nobodymeets.errors import InvalidBook, InvalidIndex
from nobodymeets.passings import need_any_routes, need_both


def need_facts(routes, known):
    """Any value as facts: for each robot how many of its visits are known to be over, in a tuple."""
    if not is_sequence(known) or len(known) != len(routes):
        raise InvalidBook(-1)
    for robot, (number, route) in enumerate(list(zip(known, routes))):
        # The last visit is never over.
        if not is_index(number, len(route)):
            raise InvalidBook(robot)
    return tuple(known)


def known_none(routes):
    """The facts by which no visit is known to be over."""
    return (0,) * len(need_any_routes(routes))


def heard_left(routes, known, visit):
    """The facts, and that a visit, unless it is a last one, and all ahead of it on its route are over."""
    rows = need_any_routes(routes)
    facts = need_facts(rows, known)
    if not is_sequence(visit) or len(visit) != 2 or not is_index(visit[0], len(rows)):
        raise InvalidIndex(-1)
    if not is_index(visit[1], len(rows[visit[0]])):
        raise InvalidIndex(-1)
    return with_left(rows, facts, visit[0], visit[1])


def with_left(routes, facts, robot, visit):
    """Facts in a tuple, and that a visit of a robot, unless it is its last one, and all ahead of it are over."""
    over = max(facts[robot], min(visit + 1, len(routes[robot]) - 1))
    return facts[:robot] + (over,) + facts[robot + 1:]


def joined_known(routes, one, other):
    """Of each robot the greater number of two facts."""
    rows = need_any_routes(routes)
    ones, others = need_facts(rows, one), need_facts(rows, other)
    return tuple([max(pair) for pair in zip(ones, others)])


def need_known(routes, passings, known):
    """Routes and passings of them, and facts, in tuples."""
    both = need_both(routes, passings)
    return both, need_facts(both[0], known)


def granted_visits(routes, passings, known):
    """Of each cell's row the first visit that is not known to be over, ascending."""
    both, facts = need_known(routes, passings, known)
    return granted_by(both, facts)


def granted_by(both, facts):
    """Of each cell's row, in tuples, the first visit that is not known to be over, ascending."""
    return tuple(sorted([visit for _, visit in first_visits(both, facts)]))


def first_visits(both, facts):
    """By each cell, ascending, the first visit of its row that is not known to be over, if there is one."""
    found = []
    for cell, row in both[1]:
        left = [(robot, visit) for robot, visit in row if visit >= facts[robot]]
        found.extend([(cell, visit) for visit in left[:1]])
    return found


def told_holds(routes, passings, known):
    """The pairs (cell, robot) of granted visits, ascending."""
    both, facts = need_known(routes, passings, known)
    return tuple([(cell, visit[0]) for cell, visit in first_visits(both, facts)])


def implied_known(routes, passings, known):
    """The facts, and that all comings are there from which ways of the web lead to those that are known."""
    both, facts = need_known(routes, passings, known)
    return implied_by(both, facts)


def implied_by(both, facts):
    """What follows of facts by the web of routes and passings in tuples."""
    comings = [(robot, number) for robot, number in enumerate(facts) if number > 0]
    there = steps_from_any(turned_web(both), comings)
    return tuple([max([visit for one, visit in there if one == robot], default=0) for robot in range(len(facts))])


def may_stand(routes, passings, known, robot):
    """The first visit at which a robot can be, by what follows, and the last one to which granted visits lead."""
    both, facts = need_known(routes, passings, known)
    if not is_index(robot, len(facts)):
        raise InvalidIndex(-1)
    granted = granted_by(both, facts)
    first = implied_by(both, facts)[robot]
    last = first
    while (robot, last + 1) in granted:
        last += 1
    return (first, last)
