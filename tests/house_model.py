"""The house told straight from the document, to hold the package against."""

MARKED = ("shelf", "station", "charger")
ROBOT_WORDS = ("start", "come", "break", "fetch", "put")


class Visit:
    def __init__(self, robot, cell):
        self.robot = robot
        self.cell = cell
        self.is_over = False


class Robot:
    def __init__(self, home):
        self.home = home
        self.visits = []
        self.at = 0
        self.between = False
        self.broken = False
        self.is_in = True


class Errand:
    def __init__(self, goals):
        self.goals = goals
        self.robot = None
        self.last = None
        self.left = 0


def leg(hall, start, goal):
    """(The first of the shortest ways through free cells, the cells from which one could go on)."""
    rows, seen = [(start,)], [(start,)]
    while rows:
        ends = sorted(row + (goal,) for row in rows if goal in hall.followers[row[-1]])
        if ends:
            return ends[0], None
        rows = [row + (cell,) for row in rows for cell in hall.followers[row[-1]]
                if hall.kinds[cell] == "free" and cell not in row]
        seen += rows
    return None, tuple(sorted({row[-1] for row in seen}))


class HouseModel:
    """A house that keeps all visits in the rows, also those that are over."""

    def __init__(self, hall, homes):
        self.hall = hall
        self.robots = [Robot(home) for home in homes]
        self.rows = [[] for _ in range(hall.cells)]
        self.errands = []
        for number in range(len(homes)):
            self.add(number, homes[number])

    def add(self, number, cell):
        visit = Visit(number, cell)
        self.robots[number].visits.append(visit)
        self.rows[cell].append(visit)
        return visit

    def error_of(self, word):
        """(The error's name, what it keeps) of a word, or None."""
        if not isinstance(word, (list, tuple)) or not word or not isinstance(word[0], str):
            return ("InvalidScript", -1)
        if word[0] == "deal" and len(word) == 1:
            return None
        if word[0] == "errand" and len(word) == 2:
            return None if self.are_goals(word[1]) else ("InvalidScript", -1)
        if word[0] not in ("start", "come", "break", "fetch", "put") or len(word) != 2:
            return ("InvalidScript", -1)
        number = word[1]
        if isinstance(number, bool) or not isinstance(number, int) or not 0 <= number < len(self.robots):
            return ("NoRobot", number)
        return None if self.may(word[0], number) else ("Refused", number)

    def are_goals(self, goals):
        if not isinstance(goals, (list, tuple)) or not 1 <= len(goals) <= 6:
            return False
        for at, cell in enumerate(goals):
            if isinstance(cell, bool) or not isinstance(cell, int) or not 0 <= cell < self.hall.cells:
                return False
            if self.hall.kinds[cell] not in MARKED or (at > 0 and goals[at - 1] == cell):
                return False
        return True

    def may(self, word, number):
        robot = self.robots[number]
        if word == "start":
            return self.can_start(number)
        if word == "come":
            return robot.is_in and robot.between and not robot.broken
        if word == "break":
            return robot.is_in and not robot.broken
        return robot.broken if word == "fetch" else not robot.is_in

    def ahead(self, number):
        """The visits in the row ahead of a robot's next one that aren't over; None: it has no next one."""
        robot = self.robots[number]
        if not robot.is_in or robot.at + 1 == len(robot.visits):
            return None
        visit = robot.visits[robot.at + 1]
        row = self.rows[visit.cell]
        return [other for other in row[:row.index(visit)] if not other.is_over]

    def can_start(self, number):
        robot = self.robots[number]
        return robot.is_in and not robot.between and not robot.broken and self.ahead(number) == []

    def waits_on(self, number):
        ahead = self.ahead(number)
        return ahead[-1].robot if ahead else None

    def place(self, number):
        robot = self.robots[number]
        if not robot.is_in:
            return ()
        return tuple(visit.cell for visit in robot.visits[robot.at:robot.at + 1 + robot.between])

    def do_word(self, word):
        if word[0] == "errand":
            self.errands.append(Errand(tuple(word[1])))
            return ("waits", len(self.errands) - 1)
        if word[0] == "deal":
            return self.deal()
        robot = self.robots[word[1]]
        if word[0] == "start":
            robot.between = True
        elif word[0] == "come":
            robot.visits[robot.at].is_over = True
            robot.at += 1
            robot.between = False
        elif word[0] == "break":
            robot.broken = True
        elif word[0] == "fetch":
            return ("fetch",) + self.fetch(word[1])
        else:
            robot.is_in = True
            robot.at = len(robot.visits)
            self.add(word[1], robot.home)
        return (word[0],)

    def deal(self):
        waiting = [number for number, errand in enumerate(self.errands) if errand.robot is None]
        fit = [(len(robot.visits) - robot.at, number) for number, robot in enumerate(self.robots)
               if robot.is_in and not robot.broken]
        if not waiting or not fit:
            return ("none",)
        cuts = []
        for _, number in sorted(fit):
            cut = self.plan(self.errands[waiting[0]], number)
            if cut is None:
                return ("errand", waiting[0], number)
            cuts.append(("cut", waiting[0], number) + cut)
        return cuts[0]

    def plan(self, errand, number):
        """Plans an errand for a robot; if it can't, the goal and the cells from which it could go on."""
        stops = (self.robots[number].home,) + errand.goals + (self.robots[number].home,)
        legs = []
        for start, goal in zip(stops, stops[1:]):
            way, lot = leg(self.hall, start, goal)
            if way is None:
                return goal, lot
            legs.append(way)
        visits = [[self.add(number, cell) for cell in way[1:]] for way in legs]
        errand.robot, errand.last = number, visits[-2][-1]
        return None

    def is_come(self, visit):
        visits = self.robots[visit.robot].visits
        return visits.index(visit) <= self.robots[visit.robot].at

    def fetch(self, number):
        robot = self.robots[number]
        left = []
        for at, errand in enumerate(self.errands):
            if errand.robot == number and not self.is_done(errand):
                errand.robot, errand.last = None, None
                left.append(at)
        self.rows = [[visit for visit in row if visit.robot != number] for row in self.rows]
        robot.is_in = robot.between = robot.broken = False
        return tuple(left)

    def is_done(self, errand):
        return errand.last is not None and self.is_come(errand.last)

    def comings(self, number):
        """The comings (robot, place among its visits) that must be there ahead of an errand's last goal's, too."""
        errand = self.errands[number]
        if errand.robot is None or self.is_done(errand):
            return []
        left, found = [errand.last], {}
        while left:
            visit = left.pop()
            if id(visit) in found or self.is_come(visit):
                continue
            visits, row = self.robots[visit.robot].visits, self.rows[visit.cell]
            at = visits.index(visit)
            found[id(visit)] = (visit.robot, at)
            left.append(visits[at - 1])
            for other in row[:row.index(visit)]:
                others = self.robots[other.robot].visits
                left.append(others[others.index(other) + 1])
        return list(found.values())

    def comings_by_runs(self, number):
        """The comings, ascending, without which an errand's last goal is never come to."""
        errand = self.errands[number]
        if errand.robot is None or self.is_done(errand):
            return []
        goal = (errand.robot, self.robots[errand.robot].visits.index(errand.last))
        left = [(at, visit) for at, robot in enumerate(self.robots) if robot.is_in
                for visit in range(robot.at + 1, len(robot.visits))]
        return [coming for coming in left if goal not in self.all_that_happen(coming)]

    def all_that_happen(self, never):
        """The comings that happen if one never does, and all others as soon as they can."""
        at = {number: robot.at for number, robot in enumerate(self.robots) if robot.is_in}
        over = {id(visit) for row in self.rows for visit in row if visit.is_over}
        happened = []
        is_more = True
        while is_more:
            is_more = False
            for number in at:
                visits = self.robots[number].visits
                coming = (number, at[number] + 1)
                if coming[1] == len(visits) or coming == never:
                    continue
                row = self.rows[visits[coming[1]].cell]
                if all(id(other) in over for other in row[:row.index(visits[coming[1]])]):
                    over.add(id(visits[at[number]]))
                    at[number] += 1
                    happened.append(coming)
                    is_more = True
        return happened

    def moves_left(self, number):
        return None if self.errands[number].robot is None else len(self.comings(number))

    def barred_by(self, number):
        robots = {robot for robot, _ in self.comings(number)}
        return tuple(sorted(robot for robot in robots if self.robots[robot].broken))

    def undealt(self):
        return tuple(number for number, errand in enumerate(self.errands) if errand.robot is None)

    def errand_of(self, number):
        return self.errands[number].goals, self.errands[number].robot


def any_word(chance, hall, homes, model):
    """A word by chance, more often one that can be done."""
    kind = chance.randrange(20)
    ends = [cell for cell, mark in hall.marks if mark != "park"]
    if kind < 2 and ends and len(model.errands) < 9:
        return ("errand", [chance.choice(ends) for _ in range(chance.randint(1, 3))])
    if kind < 5:
        return ["deal"]
    robot = chance.randrange(len(homes) + (kind == 5))
    if kind < 8:
        return (chance.choice(ROBOT_WORDS), robot)
    for name in ("come", "put", "fetch") if kind == 8 else ("come", "start"):
        if robot < len(homes) and model.may(name, robot):
            return [name, robot]
    return ("start", robot)
