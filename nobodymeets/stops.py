"""Stops at chargers: the fewest ticks of an errand of a robot that has to fill its charge on the way.

A state is (ends done, cell, charge)."""

from heapq import heappop, heappush

from nobodymeets.basics import came_from, is_count, is_index, is_number, is_rising, is_sequence, row_to
from nobodymeets.charge import charger_steps, need_chargers, need_full
from nobodymeets.errors import InvalidLot, InvalidSize
from nobodymeets.halls import need_cell, need_hall


class Errand:
    """An errand: where a robot begins with which charge, the cells that it is to be in, and how it fills."""

    def __init__(self, hall, full, gain, cell, charge, ends):
        need_hall(hall)
        need_full(full)
        if not is_count(gain):
            raise InvalidSize("gain")
        need_cell(hall, cell, -1)
        if not is_index(charge, full + 1):
            raise InvalidSize("charge")
        self.hall = hall
        self.full = full
        self.gain = gain
        self.begin = (0, cell, charge)
        self.ends = need_ends(hall, ends)
        self.chargers = hall.cells_of("charger")


def need_ends(hall, ends):
    """Cells of a hall, in any order, alike ones let, in a tuple."""
    if not is_sequence(ends):
        raise InvalidLot(-1)
    for at, cell in enumerate(ends):
        if not is_index(cell, hall.cells):
            raise InvalidLot(at)
    return tuple(ends)


def stop_cells(errand):
    """The chargers and the cells that a robot is to be in, ascending."""
    return sorted(list({cell: True for cell in errand.chargers + errand.ends}))


def stop_ways(errand, cells):
    """By each of some cells a shortest way to each other charger or end that one can come to from it."""
    stops = stop_cells(errand)
    ways = {}
    for cell in cells:
        came = came_from(errand.hall.followers, [cell])
        ways[cell] = [tuple(row_to(came, stop)) for stop in stops if stop != cell and stop in came]
    return ways


def deeds_from(errand, ways, state):
    """What can be done in a state: (the state then, the ticks for it, what it is told as)."""
    done, cell, charge = state
    deeds = [((done, way[-1], charge - len(way) + 1), len(way) - 1, ("go", way)) for way in ways[cell]
             if len(way) - 1 <= charge]
    deeds.extend([(after, ticks, None) for after, ticks in deeds_at(errand, state)])
    return deeds


def deeds_at(errand, state):
    """What can be done in a state where one is: (the state then, the ticks for it), to fill or to do the next end."""
    done, cell, charge = state
    deeds = []
    if cell in errand.chargers and charge < errand.full:
        deeds.append(((done, cell, min(charge + errand.gain, errand.full)), 1))
    if done < len(errand.ends) and errand.ends[done] == cell:
        deeds.append(((done + 1, cell, charge), 0))
    return deeds


def state_ticks(errand):
    """(The fewest ticks to each state that can come, the state ahead of each and what is told as done there)."""
    ways = stop_ways(errand, stop_cells(errand) + [errand.begin[1]])
    ticks = {errand.begin: 0}
    ahead = {errand.begin: None}
    queue = [(0, errand.begin)]
    while len(queue) > 0:
        tick, state = heappop(queue)
        if tick > ticks[state]:
            continue
        for after, more, told in deeds_from(errand, ways, state):
            if after not in ticks or tick + more < ticks[after]:
                ticks[after] = tick + more
                ahead[after] = (state, told)
                heappush(queue, (tick + more, after))
    return ticks, ahead


def is_safe_end(errand, steps, state):
    """Whether in a state all ends are done and a charger is in reach."""
    done, cell, charge = state
    return done == len(errand.ends) and steps[cell] is not None and steps[cell] <= charge


def stop_run(hall, full, gain, cell, charge, ends):
    """(The fewest ticks by which an errand is done and the robot safe, some row of ways and fillings), or None."""
    errand = Errand(hall, full, gain, cell, charge, ends)
    need_chargers(hall)
    steps = charger_steps(hall)
    ticks, ahead = state_ticks(errand)
    lasts = [(tick, state) for state, tick in ticks.items() if is_safe_end(errand, steps, state)]
    if len(lasts) == 0:
        return None
    tick, state = min(lasts)
    return (tick, told_row(ticks, ahead, state))


def told_row(ticks, ahead, last):
    """The ways and fillings by which one comes to a last state."""
    row = []
    state = last
    while ahead[state] is not None:
        before, told = ahead[state]
        filled = ticks[state] - ticks[before]
        if told is not None:
            row.append(told)
        elif filled > 0 and len(row) > 0 and row[-1][0] == "fill":
            row[-1] = ("fill", row[-1][1] + filled)
        elif filled > 0:
            row.append(("fill", filled))
        state = before
    return tuple(row[::-1])


def plain_ticks(hall, full, gain, cell, charge, ends, most):
    """The fewest ticks of an errand, found tick by tick, through all cells; None if they are more than most."""
    errand = Errand(hall, full, gain, cell, charge, ends)
    if not is_number(most):
        raise InvalidSize("most")
    need_chargers(hall)
    steps = charger_steps(hall)
    known = {}
    level = with_ends_done(errand, known, [errand.begin])
    for tick in range(most + 1):
        if any([is_safe_end(errand, steps, state) for state in level]):
            return tick
        if len(level) == 0:
            return None
        level = with_ends_done(errand, known, [after for state in level for after in states_behind(errand, state)])
    return None


def states_behind(errand, state):
    """The states a tick behind one, by going into a next cell or filling."""
    done, cell, charge = state
    found = [(done, other, charge - 1) for other in errand.hall.followers[cell] if charge > 0]
    return found + [after for after, ticks in deeds_at(errand, state) if ticks > 0]


def with_ends_done(errand, known, states):
    """Those of some states, and of those in which ends are done there, that were not known; they are known then."""
    found = []
    left = list(states)
    while len(left) > 0:
        state = left.pop()
        if state not in known:
            known[state] = True
            found.append(state)
            left.extend([after for after, ticks in deeds_at(errand, state) if ticks == 0])
    return found


def stop_table(hall, full, gain, cell, charge, ends):
    """The pairs (state, fewest ticks) of all states that can come, ascending."""
    ticks, _ = state_ticks(Errand(hall, full, gain, cell, charge, ends))
    return tuple(sorted(list(ticks.items())))


def is_state_pair(errand, value):
    """Whether any value is a pair of a state and a number."""
    if not isinstance(value, tuple) or len(value) != 2 or not is_number(value[1]):
        return False
    state = value[0]
    if not isinstance(state, tuple) or len(state) != 3 or not is_index(state[0], len(errand.ends) + 1):
        return False
    return is_index(state[1], errand.hall.cells) and is_index(state[2], errand.full + 1)


def stop_holds(hall, full, gain, cell, charge, ends, value):
    """Whether any value is pairs (state, number), rising, the begin with 0, so that no deed leads to a state with
    more ticks than so, or without."""
    errand = Errand(hall, full, gain, cell, charge, ends)
    if not isinstance(value, tuple) or not all([is_state_pair(errand, pair) for pair in value]):
        return False
    if not is_rising([state for state, _ in value]):
        return False
    ticks = {state: tick for state, tick in value}
    if ticks.get(errand.begin) != 0:
        return False
    ways = stop_ways(errand, list({state[1]: True for state in ticks}))
    for state, tick in value:
        for after, more, _ in deeds_from(errand, ways, state):
            if after not in ticks or ticks[after] > tick + more:
                return False
    return True
