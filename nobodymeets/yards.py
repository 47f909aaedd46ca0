"""Yards: lanes in which anybody may leave first."""

from nobodymeets.basics import is_index, is_lot, is_sequence
from nobodymeets.errors import InvalidIndex, Refused
from nobodymeets.lanes import is_full, need_standing


def yard_knot(lanes, standing):
    """The greatest lot of full lanes all robots of which want to go to lanes of the lot, or None."""
    return lot_of(lanes, need_standing(lanes, standing))


def lot_of(lanes, rows):
    """The greatest lot of full lanes whose robots all want to go to lanes of it, of a standing in tuples, or None."""
    lot = [lane for lane in range(len(rows)) if is_full(lanes, rows, lane)]
    left = shut_in(rows, lot)
    while len(left) < len(lot):
        lot = left
        left = shut_in(rows, lot)
    return tuple(lot) if len(lot) > 0 else None


def shut_in(rows, lot):
    """Those lanes of a lot all robots of which want to go to lanes of the lot."""
    return [lane for lane in lot if all([len(way) > 0 and way[0] in lot for way in rows[lane]])]


def yard_goings(lanes, standing):
    """The pairs (lane, place in its row) of those who can go, ascending."""
    return goings_in(lanes, need_standing(lanes, standing))


def goings_in(lanes, rows):
    """The pairs (lane, place in its row) of those who can go, of a standing in tuples."""
    return tuple([(lane, place) for lane, row in enumerate(rows) for place in range(len(row))
                  if can_leave(lanes, rows, lane, place)])


def can_leave(lanes, rows, lane, place):
    """Whether the robot in a place of a lane's row can go out, or has room in its next lane."""
    way = rows[lane][place]
    return len(way) == 0 or not is_full(lanes, rows, way[0])


def yard_gone(lanes, standing, going):
    """What is when the robot in a place of a lane's row has gone."""
    rows = need_standing(lanes, standing)
    if not is_going(rows, going):
        raise InvalidIndex(-1)
    if not can_leave(lanes, rows, going[0], going[1]):
        raise Refused(going[0])
    return after_leaving(rows, going[0], going[1])


def is_going(rows, value):
    """Whether a value is a pair of a lane and a place of its row."""
    if not is_sequence(value) or len(value) != 2 or not is_index(value[0], len(rows)):
        return False
    return is_index(value[1], len(rows[value[0]]))


def after_leaving(standing, lane, place):
    """A standing in tuples when the robot in a place of a lane's row, which can go, has gone."""
    way = standing[lane][place]
    rows = list(standing)
    rows[lane] = rows[lane][:place] + rows[lane][place + 1:]
    if len(way) > 0:
        rows[way[0]] = rows[way[0]] + (way[1:],)
    return tuple(rows)


def yard_paper(lanes, standing):
    """A lot of lanes that nobody ever leaves, or goings that bring all out; room for two in each lane is needed."""
    rows = need_standing(lanes, standing)
    if 1 in lanes.rooms:
        raise Refused(lanes.rooms.index(1))
    lot = lot_of(lanes, rows)
    if lot is not None:
        return ("knot", lot)
    goings = []
    while any([len(row) > 0 for row in rows]):
        lane, place = safe_going(lanes, rows)
        goings.append((lane, place))
        rows = after_leaving(rows, lane, place)
    return ("out", tuple(goings))


def safe_going(lanes, rows):
    """The first going behind which no lot is shut: as all can come out, there is one."""
    for lane, place in goings_in(lanes, rows):
        if is_safe_going(lanes, rows, lane, place):
            return (lane, place)
    return None


def is_safe_going(lanes, rows, lane, place):
    """Whether no lot is shut behind a going of a standing with none; only a lane that it fills can shut one."""
    way = rows[lane][place]
    if len(way) == 0 or len(rows[way[0]]) + 1 < lanes.rooms[way[0]]:
        return True
    return lot_of(lanes, after_leaving(rows, lane, place)) is None


def yard_holds(lanes, standing, value):
    """Whether any value is goings that bring all out, or a lot of full lanes whose robots all want to stay in it."""
    rows = need_standing(lanes, standing)
    if not isinstance(value, tuple) or len(value) != 2:
        return False
    if value[0] == "out":
        return do_bring_out(lanes, rows, value[1])
    return value[0] == "knot" and is_shut_lot(lanes, rows, value[1])


def do_bring_out(lanes, standing, value):
    """Whether any value is goings that can be done one after another and bring all out."""
    if not isinstance(value, tuple):
        return False
    rows = standing
    for going in value:
        if not isinstance(going, tuple) or not is_going(rows, going) or not can_leave(lanes, rows, going[0], going[1]):
            return False
        rows = after_leaving(rows, going[0], going[1])
    return all([len(row) == 0 for row in rows])


def is_shut_lot(lanes, rows, value):
    """Whether any value is one or more full lanes, ascending, all robots of which want to go to lanes among them."""
    if not is_lot(value, len(rows)) or len(value) == 0 or not all([is_full(lanes, rows, lane) for lane in value]):
        return False
    return shut_in(rows, value) == list(value)
