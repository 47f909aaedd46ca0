"""The house: robots with homes in a hall, errands dealt to them, and the order in which they pass."""

from nobodymeets.basics import is_index, is_sequence, row_to
from nobodymeets.errors import InvalidIndex, InvalidRobots, InvalidScript, NoRobot, Refused
from nobodymeets.halls import need_hall

MOST_ROBOTS = 6
MOST_GOALS = 6
ROBOT_WORDS = ("start", "come", "break", "fetch", "put")


class House:
    """A house, changed word by word.

    A robot's visits are numbered for good, also those of before it was fetched: its next one is
    behind the one that it has come to last. A cell's row has its visits that are not over."""

    def __init__(self, hall, homes):
        need_hall(hall)
        self.hall = hall
        self.homes = need_homes(hall, homes)
        self.words = ()
        self._visits = [[home] for home in self.homes]
        self._come_to = [0] * len(self.homes)
        self._between = [False] * len(self.homes)
        self._broken = [False] * len(self.homes)
        self._is_out = [False] * len(self.homes)
        self._rows = [[] for _ in range(hall.cells)]
        for robot, home in enumerate(self.homes):
            self._rows[home].append((robot, 0))
        self._goals = []
        self._dealt_to = []
        self._last_visits = []

    def do_word(self, word):
        """Does a word, and tells what is described for it."""
        plain = need_word(self.hall, word)
        if plain[0] == "errand":
            told = self._take_errand(plain[1])
        elif plain[0] == "deal":
            told = self._deal()
        else:
            self._need_robot(plain[1])
            if not self._may_do(plain[0], plain[1]):
                raise Refused(plain[1])
            told = self._let_do(plain[0], plain[1])
        self.words = self.words + (plain,)
        return told

    def robot_place(self, robot):
        """No cell if a robot is out, its cell, or both cells that it is between."""
        self._need_robot(robot)
        if self._is_out[robot]:
            return ()
        visit = self._come_to[robot]
        many = 2 if self._between[robot] else 1
        return tuple(self._visits[robot][visit:visit + many])

    def can_start(self, robot):
        """Whether a robot stands, isn't broken, and has nobody ahead of its next visit."""
        return self.is_ready(robot) and self._ahead_of(robot, self._come_to[robot] + 1) is None

    def is_ready(self, robot):
        """Whether a robot stands, isn't broken, and has a next visit, whoever is ahead of it."""
        self._need_robot(robot)
        if self._is_out[robot] or self._between[robot] or self._broken[robot]:
            return False
        return self._visits_ahead(robot) > 0

    def visit_come_to(self, robot):
        """The number of the visit that a robot has come to last."""
        self._need_robot(robot)
        return self._come_to[robot]

    def planned_cells(self, robot):
        """The cells of all visits ever planned for a robot, by their numbers."""
        self._need_robot(robot)
        return tuple(self._visits[robot])

    def waits_on(self, robot):
        """The robot whose visit stands just ahead of a robot's next one, or None."""
        self._need_robot(robot)
        if self._visits_ahead(robot) == 0:
            return None
        ahead = self._ahead_of(robot, self._come_to[robot] + 1)
        return None if ahead is None else ahead[0]

    def moves_left(self, number):
        """How many comings, of all robots, an errand still waits for; None if it isn't dealt."""
        self._need_errand(number)
        return None if self._dealt_to[number] is None else len(self._comings_left(number))

    def barred_by(self, number):
        """The broken robots among those for whose comings an errand waits, ascending."""
        self._need_errand(number)
        robots = [robot for robot, _ in self._comings_left(number)]
        return tuple([robot for robot in range(len(self.homes)) if self._broken[robot] and robot in robots])

    def undealt(self):
        """The errands that wait, ascending."""
        return tuple([number for number, robot in enumerate(self._dealt_to) if robot is None])

    def errand_of(self, number):
        """An errand's goals and robot, None while it waits."""
        self._need_errand(number)
        return (self._goals[number], self._dealt_to[number])

    def _need_robot(self, robot):
        if not is_index(robot, len(self.homes)):
            raise NoRobot(robot)

    def _need_errand(self, number):
        if not is_index(number, len(self._goals)):
            raise InvalidIndex(-1)

    def _visits_ahead(self, robot):
        return len(self._visits[robot]) - 1 - self._come_to[robot]

    def _ahead_of(self, robot, visit):
        """The visit just ahead in the row of a visit that isn't over, or None."""
        row = self._rows[self._visits[robot][visit]]
        at = row.index((robot, visit))
        return row[at - 1] if at > 0 else None

    def _is_done(self, number):
        """Whether an errand is dealt, and its robot has come to its last goal."""
        robot = self._dealt_to[number]
        return robot is not None and self._come_to[robot] >= self._last_visits[number]

    def _comings_left(self, number):
        """The comings that must still be ahead of the last goal's one of an errand, and that one."""
        if self._dealt_to[number] is None or self._is_done(number):
            return []
        queue = [(self._dealt_to[number], self._last_visits[number])]
        found = {queue[0]: True}
        at = 0
        while at < len(queue):
            owner, visit = queue[at]
            for coming in self._comings_needed(owner, visit):
                if coming not in found:
                    found[coming] = True
                    queue.append(coming)
            at += 1
        return queue

    def _comings_needed(self, robot, visit):
        """The comings left that stand just ahead of one: its robot's own, and that which makes room for it."""
        needed = []
        if visit - 1 > self._come_to[robot]:
            needed.append((robot, visit - 1))
        ahead = self._ahead_of(robot, visit)
        if ahead is not None:
            # Whoever is ahead has a next visit: last ones are at homes, where nobody else goes.
            needed.append((ahead[0], ahead[1] + 1))
        return needed

    def _take_errand(self, goals):
        self._goals.append(goals)
        self._dealt_to.append(None)
        self._last_visits.append(None)
        return ("waits", len(self._goals) - 1)

    def _deal(self):
        waiting = self.undealt()
        robots = self._robots_to_deal()
        if len(waiting) == 0 or len(robots) == 0:
            return ("none",)
        goals = self._goals[waiting[0]]
        for robot in robots:
            legs = round_tour(self.hall, self.homes[robot], goals)[0]
            if legs is not None:
                self._put_behind(waiting[0], robot, legs)
                return ("errand", waiting[0], robot)
        goal, lot = round_tour(self.hall, self.homes[robots[0]], goals)[1:]
        return ("cut", waiting[0], robots[0], goal, lot)

    def _robots_to_deal(self):
        """The robots that are in and not broken, by visits ahead, then by number."""
        order = []
        for robot in range(len(self.homes)):
            if not self._is_out[robot] and not self._broken[robot]:
                order.append((self._visits_ahead(robot), robot))
        return [robot for _, robot in sorted(order)]

    def _put_behind(self, number, robot, legs):
        """Gives an errand to a robot, and puts its visits at the ends of their cells' rows."""
        for leg in legs:
            # What stands last ahead of the way home is the last goal's visit.
            self._last_visits[number] = len(self._visits[robot]) - 1
            for cell in leg[1:]:
                self._add_visit(robot, cell)
        self._dealt_to[number] = robot

    def _add_visit(self, robot, cell):
        self._rows[cell].append((robot, len(self._visits[robot])))
        self._visits[robot].append(cell)

    def _may_do(self, name, robot):
        """Whether a robot may do a word."""
        if name == "start":
            return self.can_start(robot)
        if name == "come":
            return self._between[robot] and not self._broken[robot]
        if name == "break":
            return not self._is_out[robot] and not self._broken[robot]
        return self._broken[robot] if name == "fetch" else self._is_out[robot]

    def _let_do(self, name, robot):
        """Lets a robot do a word that it may do."""
        if name == "fetch":
            return ("fetch",) + self._fetch(robot)
        if name == "start":
            self._between[robot] = True
        elif name == "come":
            self._come(robot)
        elif name == "break":
            self._broken[robot] = True
        else:
            self._is_out[robot] = False
            self._add_visit(robot, self.homes[robot])
            self._come_to[robot] = len(self._visits[robot]) - 1
        return (name,)

    def _come(self, robot):
        # The visit behind is over: it was the first of its row, as the robot was there.
        self._rows[self._visits[robot][self._come_to[robot]]].pop(0)
        self._come_to[robot] += 1
        self._between[robot] = False

    def _fetch(self, robot):
        """Takes a robot out with all its visits, and tells its errands, which wait again."""
        errands = [number for number, own in enumerate(self._dealt_to) if own == robot]
        left = [number for number in errands if not self._is_done(number)]
        for number in left:
            self._dealt_to[number] = None
        self._rows = [[visit for visit in row if visit[0] != robot] for row in self._rows]
        self._come_to[robot] = len(self._visits[robot]) - 1
        self._between[robot] = False
        self._broken[robot] = False
        self._is_out[robot] = True
        return tuple(left)


def need_homes(hall, homes):
    """Homes of one to six robots, unlike parks, in a tuple."""
    if not is_sequence(homes) or not 1 <= len(homes) <= MOST_ROBOTS:
        raise InvalidRobots(-1)
    for at, home in enumerate(homes):
        if not is_index(home, hall.cells) or hall.kinds[home] != "park" or home in homes[:at]:
            raise InvalidRobots(at)
    return tuple(homes)


def need_word(hall, word):
    """Any value as a word, in tuples; whether a robot's number is one is not asked here."""
    if not is_sequence(word) or len(word) == 0 or not isinstance(word[0], str):
        raise InvalidScript(-1)
    if word[0] == "errand" and len(word) == 2 and are_goals(hall, word[1]):
        return ("errand", tuple(word[1]))
    if word[0] == "deal" and len(word) == 1:
        return ("deal",)
    if word[0] in ROBOT_WORDS and len(word) == 2:
        return (word[0], word[1])
    raise InvalidScript(-1)


def are_goals(hall, value):
    """Whether any value is 1 to 6 cells, no free ones, no parks, each unlike the one ahead."""
    if not is_sequence(value) or not 1 <= len(value) <= MOST_GOALS:
        return False
    if not all([is_index(cell, hall.cells) for cell in value]):
        return False
    if any([hall.kinds[cell] in ("free", "park") for cell in value]):
        return False
    return all([one != other for one, other in zip(value, value[1:])])


def round_tour(hall, home, goals):
    """(Legs from home through the goals back home, None, None), or (None, the first goal or home that
    can't be come to, the cells from which one could go on to it, ascending)."""
    legs = []
    begin = home
    for goal in goals + (home,):
        leg, lot = first_leg(hall, begin, goal)
        if leg is None:
            return None, goal, lot
        legs.append(leg)
        begin = goal
    return legs, None, None


def first_leg(hall, start, goal):
    """(The first of the shortest ways from a cell to another one, all free between, None), or (None, lot).

    Cells are gone on from in the order of the first shortest ways to them, so each one is come to
    first along its own first shortest way."""
    came = {start: None}
    queue = [start]
    at = 0
    while at < len(queue):
        cell = queue[at]
        for other in hall.followers[cell]:
            if other == goal:
                return tuple(row_to(came, cell)) + (goal,), None
            if hall.kinds[other] == "free" and other not in came:
                came[other] = cell
                queue.append(other)
        at += 1
    return None, tuple(sorted(queue))


def house_again(hall, homes, words):
    """The house in which words were done."""
    house = House(hall, homes)
    if not is_sequence(words):
        raise InvalidScript(-1)
    for at, word in enumerate(words):
        try:
            house.do_word(word)
        except (InvalidScript, NoRobot, Refused):
            raise InvalidScript(at) from None
    return house
