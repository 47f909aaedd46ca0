"""Knots of full lanes, the standings that are safe from them, and the maps on which that is easily told."""

from nobodymeets.basics import is_index, turn_shortest_row
from nobodymeets.errors import InvalidStanding, Refused
from nobodymeets.lanes import after_going, can_go, goings_of, is_full, need_lanes, need_standing

MOST_STANDINGS = 600


def find_knot(lanes, standing):
    """The ring of the knot that has the least lane of all, or None."""
    return knot_of(lanes, need_standing(lanes, standing))


def knot_of(lanes, standing):
    """The ring of the knot with the least lane, of a standing in tuples, or None."""
    for lane in range(len(standing)):
        ring = knot_from(lanes, standing, lane)
        if ring is not None:
            return ring
    return None


def knot_from(lanes, standing, lane):
    """The ring of the knot in which a lane is, from it on, or None."""
    ring = []
    other = lane
    while other is not None and other not in ring:
        ring.append(other)
        other = full_wish(lanes, standing, other)
    return tuple(ring) if other == lane else None


def full_wish(lanes, standing, lane):
    """The lane to which the first robot of a full lane wants to go; None if it isn't full, or it wants out."""
    if not is_full(lanes, standing, lane) or len(standing[lane][0]) == 0:
        return None
    return standing[lane][0][0]


def sharing_lanes(lanes):
    """Each lane with room for one that is all that two rings of goings share, with two such rings."""
    need_lanes(lanes)
    found = []
    for lane, room in enumerate(lanes.rooms):
        rings = two_rings(lanes, lane) if room == 1 else None
        if rings is not None:
            found.append((lane, rings[0], rings[1]))
    return tuple(found)


def two_rings(lanes, lane):
    """Two rings of goings that begin with a lane and share no other one, or None.

    Two ways from the lane's door out to its door in are put into a graph of doors, the second one
    perhaps back along the first, which then is led otherwise."""
    graph = door_graph(lanes, lane)
    for _ in range(2):
        if not turn_shortest_row(graph, (lane, 1), (lane, 0)):
            return None
    used = [(one, other) for one, other in lanes.goings if (one, 1) in graph[(other, 0)]]
    return tuple([ring_along(used, lane, other) for one, other in used if one == lane])


def door_graph(lanes, lane):
    """To which doors one comes from each: (lane, 0) leads into a lane, (lane, 1) out of it.

    Each other lane is gone through once at most; a ring ends where it comes to its lane again."""
    graph = {}
    for other in range(len(lanes.rooms)):
        graph[(other, 0)] = {} if other == lane else {(other, 1): True}
        graph[(other, 1)] = {}
    for one, other in lanes.goings:
        graph[(one, 1)][(other, 0)] = True
    return graph


def ring_along(used, lane, second):
    """The ring from a lane on by its second lane, along used goings, one out of each other lane."""
    followers = {one: other for one, other in used if one != lane}
    ring = [lane]
    other = second
    while other != lane:
        ring.append(other)
        other = followers[other]
    return tuple(ring)


def lane_court(lanes):
    """("trusted",), or the first sharing lane with a standing that has no knot and yet is not safe."""
    sharing = sharing_lanes(lanes)
    if len(sharing) == 0:
        return ("trusted",)
    lane, one, other = sharing[0]
    rows = [()] * len(lanes.rooms)
    for ring, opposite in ((one, other), (other, one)):
        for at in range(1, len(ring)):
            rows[ring[at]] = (way_along(ring, opposite, at),) * lanes.rooms[ring[at]]
    return ("built", lane, tuple(rows))


def way_along(ring, opposite, at):
    """The way from a place of a ring on along it; from its last place through the lane, round the other ring."""
    if at == len(ring) - 1:
        return ring[:1] + opposite[1:]
    return ring[at + 1:] + ring[:1]


def widened_rooms(lanes):
    """The rooms of the lanes, two in each sharing one."""
    need_lanes(lanes)
    rooms = list(lanes.rooms)
    for told in sharing_lanes(lanes):
        rooms[told[0]] = 2
    return tuple(rooms)


def let_goings(lanes, standing):
    """The possible goings behind which there is no knot; of trusted maps alone."""
    rows = need_standing(lanes, standing)
    sharing = sharing_lanes(lanes)
    if len(sharing) > 0:
        raise Refused(sharing[0][0])
    return tuple([lane for lane in goings_of(lanes, rows) if is_let(lanes, rows, lane)])


def is_let(lanes, standing, lane):
    """Whether there is no knot behind a possible going."""
    return knot_of(lanes, after_going(standing, lane)) is None


def safe_paper(lanes, standing):
    """A knot, goings that bring all out, standings of which none is ever left, or that there are too many."""
    rows = need_standing(lanes, standing)
    ring = knot_of(lanes, rows)
    if ring is not None:
        return ("knot", ring)
    if len(sharing_lanes(lanes)) == 0:
        return ("out", let_out(lanes, rows))
    return searched_paper(lanes, rows)


def let_out(lanes, standing):
    """Goings that bring all out, on a trusted map: any behind which there is no knot will do."""
    goings = []
    rows = standing
    while not is_empty(rows):
        lane = first_let(lanes, rows)
        goings.append(lane)
        rows = after_going(rows, lane)
    return tuple(goings)


def first_let(lanes, standing):
    """The first possible going behind which there is no knot, or None."""
    for lane in goings_of(lanes, standing):
        if is_let(lanes, standing, lane):
            return lane
    return None


def is_empty(standing):
    """Whether nobody is in any lane."""
    return all([len(row) == 0 for row in standing])


def searched_paper(lanes, standing):
    """The paper of a standing without a knot, by all standings that come of it."""
    came = come_standings(lanes, standing)
    if len(came) > MOST_STANDINGS:
        return ("many",)
    nobody = ((),) * len(standing)
    if nobody not in came:
        return ("shut", tuple(sorted(list(came))))
    goings = []
    rows = nobody
    while came[rows] is not None:
        rows, lane = came[rows]
        goings.append(lane)
    return ("out", tuple(goings[::-1]))


def come_standings(lanes, standing):
    """All standings that come of one, each with the one and the going it came by; not all if too many."""
    came = {standing: None}
    queue = [standing]
    at = 0
    while at < len(queue) and len(queue) <= MOST_STANDINGS:
        rows = queue[at]
        for lane in goings_of(lanes, rows):
            after = after_going(rows, lane)
            if after not in came:
                came[after] = (rows, lane)
                queue.append(after)
        at += 1
    return came


def safe_holds(lanes, standing, value):
    """Whether any value is a knot, goings that bring all out, or standings of which none is ever left."""
    rows = need_standing(lanes, standing)
    if not isinstance(value, tuple) or len(value) != 2:
        return False
    if value[0] == "knot":
        return is_knot(lanes, rows, value[1])
    if value[0] == "out":
        return do_bring_out(lanes, rows, value[1])
    return value[0] == "shut" and are_shut(lanes, rows, value[1])


def is_knot(lanes, standing, value):
    """Whether any value is a knot's ring, from its least lane on."""
    if not isinstance(value, tuple) or len(value) == 0:
        return False
    if not all([is_index(lane, len(standing)) for lane in value]):
        return False
    return value[0] == min(value) and knot_from(lanes, standing, value[0]) == value


def do_bring_out(lanes, standing, value):
    """Whether any value is goings that can be done one after another and bring all out."""
    if not isinstance(value, tuple):
        return False
    rows = standing
    for lane in value:
        if not is_index(lane, len(rows)) or not can_go(lanes, rows, lane):
            return False
        rows = after_going(rows, lane)
    return is_empty(rows)


def are_shut(lanes, standing, value):
    """Whether any value is standings, ascending, this one too, none empty, that goings never leave."""
    if not isinstance(value, tuple) or not all([is_plain_standing(lanes, rows) for rows in value]):
        return False
    if not all([one < other for one, other in zip(value, value[1:])]):
        return False
    members = {rows: True for rows in value}
    if standing not in members or any([is_empty(rows) for rows in value]):
        return False
    return all([after_going(rows, lane) in members for rows in value for lane in goings_of(lanes, rows)])


def is_plain_standing(lanes, value):
    """Whether any value is a standing, in tuples alone."""
    try:
        return need_standing(lanes, value) == value
    except InvalidStanding:
        return False
