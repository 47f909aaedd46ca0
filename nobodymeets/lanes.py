"""Lanes in which nobody passes: rows of robots, of which only the first one goes on, or out."""

from nobodymeets.basics import is_index, is_integer, is_sequence
from nobodymeets.errors import InvalidIndex, InvalidLanes, InvalidStanding, InvalidTies, Refused

MOST_LANES = 12
MOST_ROOM = 9


class LaneMap:
    """Up to twelve lanes, the room of each, and the goings from lane to lane."""

    def __init__(self, rooms, goings):
        self.rooms = need_rooms(rooms)
        self.goings = need_goings(goings, len(self.rooms))

    def __eq__(self, other):
        return isinstance(other, LaneMap) and self.rooms == other.rooms and self.goings == other.goings


def need_rooms(rooms):
    """Rooms of lanes, in a tuple."""
    if not is_sequence(rooms) or len(rooms) > MOST_LANES:
        raise InvalidLanes(-1)
    for at, room in enumerate(rooms):
        if not is_integer(room) or not 1 <= room <= MOST_ROOM:
            raise InvalidLanes(at)
    return tuple(rooms)


def need_goings(goings, many):
    """Goings between so many lanes, ascending, each once."""
    if not is_sequence(goings):
        raise InvalidTies(-1)
    found = {}
    for at, going in enumerate(goings):
        if not is_going(going, many):
            raise InvalidTies(at)
        found[(going[0], going[1])] = True
    return tuple(sorted(list(found)))


def is_going(value, many):
    """Whether a value is a pair of unlike lanes."""
    if not is_sequence(value) or len(value) != 2:
        return False
    return is_index(value[0], many) and is_index(value[1], many) and value[0] != value[1]


def need_lanes(lanes):
    """Refuses whatever is no map of lanes."""
    if not isinstance(lanes, LaneMap):
        raise InvalidLanes(-1)


def need_standing(lanes, value):
    """Any value as a standing, in tuples."""
    need_lanes(lanes)
    if not is_sequence(value) or len(value) != len(lanes.rooms):
        raise InvalidStanding(-1)
    allowed = {going: True for going in lanes.goings}
    for lane, row in enumerate(value):
        if not is_sequence(row) or len(row) > lanes.rooms[lane]:
            raise InvalidStanding(lane)
        if not all([is_lane_way(allowed, len(lanes.rooms), lane, way) for way in row]):
            raise InvalidStanding(lane)
    return tuple([tuple([tuple(way) for way in row]) for row in value])


def is_lane_way(allowed, many, lane, value):
    """Whether a value is lanes that can be gone to from a lane, one after another."""
    if not is_sequence(value) or not all([is_index(other, many) for other in value]):
        return False
    stops = [lane] + list(value)
    return all([going in allowed for going in zip(stops, stops[1:])])


def possible_goings(lanes, standing):
    """The lanes whose first robot can go, ascending."""
    return goings_of(lanes, need_standing(lanes, standing))


def goings_of(lanes, standing):
    """The lanes whose first robot can go, of a standing in tuples."""
    return tuple([lane for lane in range(len(standing)) if can_go(lanes, standing, lane)])


def can_go(lanes, standing, lane):
    """Whether there is a first robot in a lane, and it can go out or has room in its next lane."""
    if len(standing[lane]) == 0:
        return False
    way = standing[lane][0]
    return len(way) == 0 or not is_full(lanes, standing, way[0])


def is_full(lanes, standing, lane):
    """Whether a lane has no room left."""
    return len(standing[lane]) == lanes.rooms[lane]


def gone_standing(lanes, standing, lane):
    """What is when the first robot of a lane has gone."""
    rows = need_standing(lanes, standing)
    if not is_index(lane, len(rows)):
        raise InvalidIndex(-1)
    if not can_go(lanes, rows, lane):
        raise Refused(lane)
    return after_going(rows, lane)


def after_going(standing, lane):
    """A standing in tuples when the first robot of a lane, which can go, has gone."""
    way = standing[lane][0]
    rows = list(standing)
    rows[lane] = rows[lane][1:]
    if len(way) > 0:
        rows[way[0]] = rows[way[0]] + (way[1:],)
    return tuple(rows)


def goings_left(lanes, standing):
    """How many goings there are till all robots are out."""
    return sum([sum([len(way) + 1 for way in row]) for row in need_standing(lanes, standing)])
