"""Detours by one-way marks, and the marks by which the greatest detour is least."""

from nobodymeets.basics import is_count, is_index, is_rising, steps_from
from nobodymeets.errors import InvalidSize, Refused
from nobodymeets.halls import Hall, need_hall
from nobodymeets.streets import hall_bridges, is_strong_hall, thinned_hall, two_way_ties


def all_steps(hall):
    """By each cell the fewest steps to all that it reaches."""
    return [steps_from(hall.followers, cell) for cell in range(hall.cells)]


def greatest_detour(hall, marked):
    """(The greatest detour, the first pair with it), or (None, the first pair that has no way in the marked hall)."""
    need_hall(hall)
    need_hall(marked)
    if hall.cells != marked.cells:
        raise Refused(-1)
    return worst_pair(all_steps(hall), all_steps(marked))


def worst_pair(steps, marked):
    """(Steps, one, other) as greatest_detour tells it, of the fewest steps in a hall and in a marked one."""
    worst = (0, 0, 0)
    for one, row in enumerate(steps):
        for other in sorted(list(row)):
            if other not in marked[one]:
                return (None, one, other)
            detour = marked[one][other] - row[other]
            if detour > worst[0]:
                worst = (detour, one, other)
    return worst


def need_strong(hall):
    """Refuses halls whose cells do not all reach each other."""
    if not is_strong_hall(hall):
        raise Refused(-1)


def open_ties(hall):
    """The two-way ties that are no bridges, ascending."""
    bridges = hall_bridges(hall)
    return [tie for tie in two_way_ties(hall) if tie not in bridges]


def without_ways(hall, struck):
    """A hall without some ways."""
    return Hall(hall.kinds, [way for way in hall.ways if way not in struck], hall.places)


def best_streets(hall, nodes):
    """The ways to be struck, one of each two-way tie that is no bridge, by which the greatest detour is least, with a
    tree that shows it; or such ways that are perhaps not the best ones."""
    need_hall(hall)
    if not is_count(nodes):
        raise InvalidSize("nodes")
    need_strong(hall)
    steps = all_steps(hall)
    ties = open_ties(hall)
    marked = thinned_hall(hall)
    best = (worst_pair(steps, all_steps(marked))[0], tuple([way for way in hall.ways if way not in marked.ways]))
    places = []
    queue = [()]
    while len(queue) > 0:
        struck = queue.pop()
        if len(places) == nodes:
            return ("bound",) + best
        worst = worst_pair(steps, all_steps(without_ways(hall, struck)))
        if worst[0] is not None and worst[0] < best[0] and len(struck) < len(ties):
            places.append(())
            lesser, greater = ties[len(struck)]
            # What is put in last is looked at first, with all below it.
            queue.append(struck + ((lesser, greater),))
            queue.append(struck + ((greater, lesser),))
        else:
            if worst[0] is not None and worst[0] < best[0]:
                best = (worst[0], tuple(sorted(struck)))
            places.append(worst[1:])
    return ("best",) + best + (tuple(places),)


def detour_holds(hall, value):
    """Whether any value is a paper of ways struck by which the greatest detour is least, with a tree that shows it."""
    need_hall(hall)
    need_strong(hall)
    if not isinstance(value, tuple) or len(value) != 4 or value[0] != "best":
        return False
    ties = open_ties(hall)
    if not are_struck(hall, ties, value[2]):
        return False
    steps = all_steps(hall)
    greatest = worst_pair(steps, all_steps(without_ways(hall, value[2])))[0]
    if greatest is None or not is_index(value[1], greatest + 1) or value[1] != greatest:
        return False
    return is_places(hall, steps, ties, greatest, value[3])


def are_struck(hall, ties, value):
    """Whether any value is one way of each tie, ascending."""
    if not isinstance(value, tuple) or len(value) != len(ties) or not all([is_pair(hall, way) for way in value]):
        return False
    return is_rising(value) and sorted([(min(way), max(way)) for way in value]) == ties


def is_pair(hall, value):
    """Whether any value is a pair of cells in a tuple."""
    if not isinstance(value, tuple) or len(value) != 2:
        return False
    return is_index(value[0], hall.cells) and is_index(value[1], hall.cells)


def is_places(hall, steps, ties, least, value):
    """Whether any value is a tree's places from above, in each last one a pair with a detour of at least so many."""
    if not isinstance(value, tuple):
        return False
    queue = [()]
    for place in value:
        if len(queue) == 0 or not isinstance(place, tuple):
            return False
        struck = queue.pop()
        if len(place) == 0:
            if len(struck) == len(ties):
                return False
            lesser, greater = ties[len(struck)]
            queue.append(struck + ((lesser, greater),))
            queue.append(struck + ((greater, lesser),))
        elif not is_pair(hall, place) or not is_far(steps, without_ways(hall, struck), place, least):
            return False
    return len(queue) == 0


def is_far(steps, marked, pair, least):
    """Whether a pair has no way in a marked hall, or a detour of at least so many steps."""
    one, other = pair
    marked_steps = steps_from(marked.followers, one)
    return other not in marked_steps or marked_steps[other] - steps[one][other] >= least
