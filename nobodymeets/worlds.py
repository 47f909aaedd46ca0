"""What is handed around in a hall: ways, plans, robots, who may be where, and scripts of what happens."""

from nobodymeets.basics import is_count, is_index, is_integer, is_number, is_sequence
from nobodymeets.errors import InvalidHolds, InvalidPlan, InvalidRobots, InvalidScript, InvalidSize, InvalidWay
from nobodymeets.goods import is_good_pair
from nobodymeets.halls import need_hall

NO_LOAD = -1
ROBOT_WORDS = ("start", "come", "deed", "break", "fetch")
CELL_WORDS = ("lose", "mend")
LONE_WORDS = ("fall", "rise")


def free_cells(hall):
    """The free cells, ascending."""
    need_hall(hall)
    return hall.cells_of("free")


def need_way(hall, value):
    """Any value as a way: cells, each but the first next to the one before."""
    need_hall(hall)
    if not is_sequence(value) or len(value) == 0:
        raise InvalidWay(-1)
    for at, cell in enumerate(value):
        if not is_index(cell, hall.cells) or (at > 0 and cell not in hall.followers[value[at - 1]]):
            raise InvalidWay(at)
    return tuple(value)


def is_leg(hall, way):
    """Whether a way's first and last cells are not free, and all between are."""
    cells = need_way(hall, way)
    if hall.kinds[cells[0]] == "free" or hall.kinds[cells[-1]] == "free":
        return False
    return all([hall.kinds[cell] == "free" for cell in cells[1:-1]])


def need_plan(hall, value):
    """Any value as a plan: for each robot a row of cells, one a tick, all alike long."""
    need_hall(hall)
    if not is_sequence(value) or len(value) == 0:
        raise InvalidPlan(-1)
    for robot, row in enumerate(value):
        if not is_plan_row(hall, row) or len(row) != len(value[0]):
            raise InvalidPlan(robot)
    return tuple([tuple(row) for row in value])


def is_plan_row(hall, value):
    """Whether a value is one or more cells, each the one before or next to it."""
    if not is_sequence(value) or len(value) == 0:
        return False
    if not all([is_index(cell, hall.cells) for cell in value]):
        return False
    return all([cell == before or cell in hall.followers[before] for before, cell in zip(value, value[1:])])


def way_of(row):
    """A plan's row without the waits."""
    way = []
    for cell in row:
        if len(way) == 0 or cell != way[-1]:
            way.append(cell)
    return tuple(way)


def need_robots(hall, full, value):
    """Any value as robots (place, load, charge, home) of a full charge, homes all unlike."""
    need_hall(hall)
    if not is_count(full):
        raise InvalidSize("full")
    if not is_sequence(value):
        raise InvalidRobots(-1)
    robots = []
    homes = {}
    for at, robot in enumerate(value):
        if not is_robot(hall, full, robot) or robot[3] in homes:
            raise InvalidRobots(at)
        homes[robot[3]] = True
        robots.append((tuple(robot[0]), robot[1], robot[2], robot[3]))
    return tuple(robots)


def is_robot(hall, full, value):
    """Whether a value is a robot's place, load, charge and home."""
    if not is_sequence(value) or len(value) != 4 or not is_robot_place(hall, value[0]):
        return False
    _, load, charge, home = value
    if not is_integer(load) or load < NO_LOAD or not is_number(charge) or charge > full:
        return False
    return is_index(home, hall.cells) and hall.kinds[home] == "park"


def is_robot_place(hall, value):
    """Whether a value is one cell, or a cell and one next to it."""
    if not is_sequence(value) or len(value) not in (1, 2):
        return False
    if not all([is_index(cell, hall.cells) for cell in value]):
        return False
    return len(value) == 1 or value[1] in hall.followers[value[0]]


def need_holds(hall, many, value):
    """Any value as pairs (cell, robot) of so many robots, each cell once, ascending."""
    need_hall(hall)
    need_many(many)
    if not is_sequence(value):
        raise InvalidHolds(-1)
    holds = []
    for at, pair in enumerate(value):
        if not is_hold(hall, many, pair) or (at > 0 and pair[0] <= holds[-1][0]):
            raise InvalidHolds(at)
        holds.append((pair[0], pair[1]))
    return tuple(holds)


def need_many(many):
    """Refuses whatever is no number of robots."""
    if not is_number(many):
        raise InvalidSize("robots")


def is_hold(hall, many, value):
    """Whether a value is a cell and the number of one of so many robots."""
    return is_sequence(value) and len(value) == 2 and is_index(value[0], hall.cells) and is_index(value[1], many)


def robots_meet(hall, full, robots):
    """The least (cell, one, other) such that both robots are in the cell, or None."""
    places = [robot[0] for robot in need_robots(hall, full, robots)]
    found = []
    for other, place in enumerate(places):
        for one in range(other):
            found.extend([(cell, one, other) for cell in place if cell in places[one]])
    return min(found, default=None)


def unheld_cell(hall, full, robots, holds):
    """The least (robot, cell) such that the robot is in the cell and has no hold of it, or None."""
    places = [robot[0] for robot in need_robots(hall, full, robots)]
    held = need_holds(hall, len(places), holds)
    found = [(robot, cell) for robot, place in enumerate(places) for cell in place if (cell, robot) not in held]
    return min(found, default=None)


def need_script(hall, many, value):
    """Any value as a script of so many robots: ticks, each a row of words, in tuples."""
    need_hall(hall)
    need_many(many)
    if not is_sequence(value):
        raise InvalidScript(-1)
    for tick, words in enumerate(value):
        if not is_sequence(words) or not all([is_script_word(hall, many, word) for word in words]):
            raise InvalidScript(tick)
    return tuple([tuple([told_word(word) for word in words]) for words in value])


def is_script_word(hall, many, value):
    """Whether a value is a word of a script of so many robots."""
    if not is_sequence(value) or len(value) == 0 or not isinstance(value[0], str):
        return False
    if len(value) == 1:
        return value[0] in LONE_WORDS
    if len(value) == 2:
        return is_pair_word(hall, many, value[0], value[1])
    if len(value) != 3:
        return False
    if value[0] == "put":
        return is_index(value[1], many) and is_index(value[2], hall.cells)
    return value[0] == "order" and is_station(hall, value[1]) and are_rising_goods(value[2])


def is_pair_word(hall, many, name, value):
    """Whether a name and a value are a word that tells of a letter, a robot or a cell."""
    if name == "take":
        return is_number(value)
    if name in ROBOT_WORDS:
        return is_index(value, many)
    return name in CELL_WORDS and is_index(value, hall.cells)


def is_station(hall, value):
    """Whether a value is a cell that is a station."""
    return is_index(value, hall.cells) and hall.kinds[value] == "station"


def are_rising_goods(value):
    """Whether a value is one or more pairs (good, count), goods rising, counts from 1 on."""
    if not is_sequence(value) or len(value) == 0 or not all([is_good_pair(pair) for pair in value]):
        return False
    return all([one[0] < other[0] for one, other in zip(value, value[1:])])


def told_word(word):
    """A script's word in tuples."""
    if word[0] == "order":
        return ("order", word[1], tuple([(good, count) for good, count in word[2]]))
    return tuple(word)
