"""Ways of one robot through time: through cells that are free in stretches of ticks, and what lateness does to them.

A room is a cell with the number of one of its stretches; a robot may wait as long as the stretch lasts."""

from heapq import heappop, heappush

from nobodymeets.basics import is_integer, is_number, is_sequence
from nobodymeets.charge import turned_graph
from nobodymeets.errors import InvalidSize, InvalidWay, Refused
from nobodymeets.halls import need_cell, need_hall
from nobodymeets.stretches import need_free, need_number, room_of, shortened
from nobodymeets.worlds import is_plan_row


def need_start(hall, free, cell, tick):
    """Stretches for each cell of a hall, in tuples, of which one of a cell has a tick."""
    need_hall(hall)
    told = need_free(hall, free)
    need_cell(hall, cell, -1)
    need_number(tick, "tick")
    need_free_at(told, cell, tick)
    return told


def need_free_at(told, cell, tick):
    """Refuses a cell that is not free at a tick."""
    if room_of(told[cell], tick) is None:
        raise Refused(cell)


def need_last(last, first):
    """Refuses whatever is no integer from a first tick on."""
    if not is_integer(last) or last < first:
        raise InvalidSize("last")


def earliest_comings(hall, free, cell, tick):
    """For each cell, for each of its stretches, the earliest tick at which a robot can be there, or None."""
    told = need_start(hall, free, cell, tick)
    comings, _ = room_comings(hall, told, cell, tick)
    return by_rooms(told, comings)


def by_rooms(told, ticks):
    """For each cell, for each of its stretches, the tick of the room, or None."""
    return tuple([tuple([ticks.get((cell, number)) for number in range(len(stretches))])
                  for cell, stretches in enumerate(told)])


def room_comings(hall, told, cell, tick):
    """(The earliest tick in each room that can be come to from a cell at a tick, the room ahead of each)."""
    begin = (cell, room_of(told[cell], tick))
    comings = {begin: tick}
    ahead = {begin: None}
    queue = [(tick, begin)]
    while len(queue) > 0:
        coming, room = heappop(queue)
        if coming > comings[room]:
            continue
        for after, other in rooms_behind(hall, told, room, coming):
            if other not in comings or after < comings[other]:
                comings[other] = after
                ahead[other] = room
                heappush(queue, (after, other))
    return comings, ahead


def rooms_behind(hall, told, room, coming):
    """The rooms into which one comes from a room since a coming there, each with the earliest tick for that."""
    end = told[room[0]][room[1]][1]
    found = []
    for cell in hall.followers[room[0]]:
        for number, (begin, until) in enumerate(told[cell]):
            tick = max(coming + 1, begin)
            if (end is None or tick <= end) and (until is None or tick < until):
                found.append((tick, (cell, number)))
    return found


def coming_bound(hall, free, tick):
    """A tick than which no coming from a tick on is later."""
    need_hall(hall)
    told = need_free(hall, free)
    need_number(tick, "tick")
    ends = [end for stretches in told for pair in stretches for end in pair if end is not None]
    return max([tick] + ends) + hall.cells - 1


def tick_cells(hall, free, cell, tick, last):
    """For each tick up to a last one all cells in which a robot can be, ascending."""
    need_hall(hall)
    told = need_free(hall, free)
    need_cell(hall, cell, -1)
    need_number(tick, "tick")
    need_last(last, tick)
    need_free_at(told, cell, tick)
    rows = [(cell,)]
    for later in range(tick + 1, last + 1):
        near = {other: True for one in rows[-1] for other in (one,) + hall.followers[one]}
        rows.append(tuple(sorted([other for other in near if room_of(told[other], later) is not None])))
    return tuple(rows)


def earliest_row(hall, free, cell, tick, goal):
    """Some row of cells, one a tick, that is in a goal as early as can be; None: never."""
    need_hall(hall)
    told = need_free(hall, free)
    need_cell(hall, cell, 0)
    need_number(tick, "tick")
    need_cell(hall, goal, 1)
    need_free_at(told, cell, tick)
    comings, ahead = room_comings(hall, told, cell, tick)
    ends = [(coming, room) for room, coming in comings.items() if room[0] == goal]
    if len(ends) == 0:
        return None
    coming, room = min(ends)
    row = [goal]
    while ahead[room] is not None:
        # One waits in the room ahead till the tick at which one comes into this one.
        row.extend([ahead[room][0]] * (comings[room] - comings[ahead[room]]))
        room = ahead[room]
    return tuple(row[::-1])


def row_holds(hall, free, tick, value):
    """Whether any value is a tuple of one or more cells that can be gone, one a tick, from a tick on."""
    need_hall(hall)
    told = need_free(hall, free)
    need_number(tick, "tick")
    return isinstance(value, tuple) and is_plan_row(hall, value) and is_free_along(told, tick, value)


def is_free_along(told, tick, row):
    """Whether each cell of a row, one a tick from a tick on, is free at its tick."""
    return all([room_of(told[cell], tick + place) is not None for place, cell in enumerate(row)])


def table_holds(hall, free, cell, tick, value):
    """Whether any value is the table of earliest comings, looked at room by room."""
    told = need_start(hall, free, cell, tick)
    if not is_table(told, value):
        return False
    ticks = {(one, number): coming for one, row in enumerate(value) for number, coming in enumerate(row)
             if coming is not None}
    begin = (cell, room_of(told[cell], tick))
    if ticks.get(begin) != tick:
        return False
    come = {begin: True}
    for room, coming in ticks.items():
        for after, other in rooms_behind(hall, told, room, coming):
            if other not in ticks or after < ticks[other]:
                return False
            if after == ticks[other]:
                come[other] = True
    return len(come) == len(ticks)


def is_table(told, value):
    """Whether any value is for each cell, for each of its stretches, a number or None."""
    if not isinstance(value, tuple) or len(value) != len(told):
        return False
    return all([is_table_row(row, len(stretches)) for row, stretches in zip(value, told)])


def is_table_row(value, many):
    """Whether any value is so many numbers and Nones."""
    if not isinstance(value, tuple) or len(value) != many:
        return False
    return all([coming is None or is_number(coming) for coming in value])


def latest_leavings(hall, free, goal, tick):
    """For each cell, for each of its stretches, the latest tick at which one can be there and yet be in a goal at
    a tick, or None."""
    told = need_start(hall, free, goal, tick)
    graph = turned_graph(hall)
    begin = (goal, room_of(told[goal], tick))
    leavings = {begin: tick}
    queue = [(-tick, begin)]
    while len(queue) > 0:
        late, room = heappop(queue)
        if -late < leavings[room]:
            continue
        for leaving, other in rooms_ahead(graph, told, room, -late):
            if other not in leavings or leaving > leavings[other]:
                leavings[other] = leaving
                heappush(queue, (-leaving, other))
    return by_rooms(told, leavings)


def rooms_ahead(graph, told, room, leaving):
    """The rooms from which one comes into a room up to a leaving there, each with the latest tick for that."""
    least = told[room[0]][room[1]][0]
    found = []
    for cell in graph[room[0]]:
        for number, (begin, end) in enumerate(told[cell]):
            tick = leaving - 1 if end is None else min(leaving, end) - 1
            if tick >= begin and tick + 1 >= least:
                found.append((tick, (cell, number)))
    return found


def coming_pieces(hall, free, cell, goal, first, last):
    """(First tick, last tick, coming) for all ticks at which a cell is free, in longest pieces of the same earliest
    tick in a goal, None for never."""
    need_hall(hall)
    told = need_free(hall, free)
    need_cell(hall, cell, 0)
    need_cell(hall, goal, 1)
    need_number(first, "first")
    need_last(last, first)
    pieces = []
    for tick in range(first, last + 1):
        if room_of(told[cell], tick) is None:
            continue
        comings, _ = room_comings(hall, told, cell, tick)
        coming = min([at for room, at in comings.items() if room[0] == goal], default=None)
        if len(pieces) > 0 and pieces[-1][1:] == (tick - 1, coming):
            pieces[-1] = (pieces[-1][0], tick, coming)
        else:
            pieces.append((tick, tick, coming))
    return tuple(pieces)


def late_row(row, waits):
    """A row with so many ticks more at each of its places."""
    if not is_sequence(row):
        raise InvalidWay(-1)
    if not is_sequence(waits) or len(waits) != len(row) or not all([is_number(wait) for wait in waits]):
        raise InvalidSize("waits")
    return tuple([cell for cell, wait in zip(row, waits) for _ in range(wait + 1)])


def is_late_safe(hall, free, tick, row, late):
    """Whether a row stays in free cells from a tick on whatever waits, together so many ticks at most, come to it."""
    need_hall(hall)
    told = need_free(hall, free)
    need_number(tick, "tick")
    if not is_plan_row(hall, row):
        raise InvalidWay(-1)
    need_number(late, "late")
    return is_free_along([shortened(stretches, late) for stretches in told], tick, row)
