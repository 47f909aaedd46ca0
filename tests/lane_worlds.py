"""Lanes told straight from the document, to hold the package against."""


def movable(lanes, standing):
    """The lanes whose first one can go."""
    return [lane for lane, row in enumerate(standing)
            if row and (row[0] == () or len(standing[row[0][0]]) < lanes.rooms[row[0][0]])]


def gone(standing, lane):
    """What is when a lane's first one has gone."""
    way = standing[lane][0]
    rows = [list(row) for row in standing]
    rows[lane].pop(0)
    if way:
        rows[way[0]].append(way[1:])
    return tuple(tuple(row) for row in rows)


def all_that_come(lanes, standing, most=100000):
    """All standings that come of one, itself too; not all, if there are more than so many."""
    found, queue = {standing}, [standing]
    while queue and len(found) <= most:
        now = queue.pop()
        for lane in movable(lanes, now):
            after = gone(now, lane)
            if after not in found:
                found.add(after)
                queue.append(after)
    return found


def is_safe(lanes, standing):
    """Whether some row of goings brings all out."""
    return tuple(() for _ in standing) in all_that_come(lanes, standing)


def rings_from(lanes, lane):
    """All rings of goings that begin with a lane."""
    found = []

    def go_on(ring):
        for one, other in lanes.goings:
            if one == ring[-1] and other == lane:
                found.append(tuple(ring))
            elif one == ring[-1] and other not in ring:
                go_on(ring + [other])

    go_on([lane])
    return found


def knots(lanes, standing):
    """All knots, each from its least lane on."""
    found = []
    for lane in range(len(standing)):
        for ring in rings_from(lanes, lane):
            wishes = zip(ring, ring[1:] + ring[:1])
            if lane == min(ring) and all(is_full_wish(lanes, standing, one, other) for one, other in wishes):
                found.append(ring)
    return found


def is_full_wish(lanes, standing, lane, other):
    row = standing[lane]
    return len(row) == lanes.rooms[lane] and row[0][:1] == (other,)


def shares(lanes, lane):
    """Whether a lane with room for one is all that two rings share."""
    rings = rings_from(lanes, lane)
    return lanes.rooms[lane] == 1 and any(set(one) & set(other) == {lane} for one in rings for other in rings)


def random_map(chance, most, rooms=(1, 1, 2, 3)):
    """A map of a few lanes."""
    from nobodymeets.lanes import LaneMap
    many = chance.randint(1, most)
    thick = chance.choice((0.3, 0.5, 0.8))
    pairs = [(one, other) for one in range(many) for other in range(many) if one != other]
    return LaneMap([chance.choice(rooms) for _ in range(many)], [pair for pair in pairs if chance.random() < thick])


def random_standing(chance, lanes, longest=4):
    """A standing of many robots."""
    rows = []
    for lane, room in enumerate(lanes.rooms):
        many = chance.choice((room, room, chance.randint(0, room)))
        rows.append(tuple(random_way(chance, lanes, lane, longest) for _ in range(many)))
    return tuple(rows)


def random_way(chance, lanes, lane, longest):
    way = []
    for _ in range(chance.randint(0, longest)):
        others = [other for one, other in lanes.goings if one == (way[-1] if way else lane)]
        if not others:
            break
        way.append(chance.choice(others))
    return tuple(way)
