"""[58]: ways, plans, robots, holds and scripts."""

import random
import unittest

from nobodymeets.errors import (InvalidHall, InvalidHolds, InvalidPlan, InvalidRobots, InvalidScript, InvalidSize,
                                InvalidWay)
from nobodymeets.halls import Hall, read_drawing
from nobodymeets.worlds import (free_cells, is_leg, need_holds, need_plan, need_robots, need_script, need_way,
                                robots_meet, unheld_cell, way_of)
from tests.hall_worlds import random_halls
from tests.helpers import (PromiseCase, changed_a_little, is_below, is_int, is_tupled, listed, no_integers,
                           no_sequences, odd_values, same, tupled)

HALL = read_drawing("P.H\nP.S")


def one_way():
    return Hall(("park", "free", "shelf"), [(0, 1), (1, 2)])


def is_row(value):
    return isinstance(value, (list, tuple))


def way_fault(hall, value):
    """Where a value is wrong as a way: a place, -1, or None."""
    if not is_row(value) or not value:
        return -1
    for at, cell in enumerate(value):
        if not is_below(cell, hall.cells) or (at and (value[at - 1], cell) not in hall.ways):
            return at
    return None


def plan_fault(hall, value):
    if not is_row(value) or not value:
        return -1
    for robot, row in enumerate(value):
        if not is_row(row) or not row or not all(is_below(cell, hall.cells) for cell in row):
            return robot
        if not all(one == other or (one, other) in hall.ways for one, other in zip(row, row[1:])):
            return robot
        if len(row) != len(value[0]):
            return robot
    return None


def robots_fault(hall, full, value):
    if not is_row(value):
        return -1
    homes = []
    for at, robot in enumerate(value):
        if not is_row(robot) or len(robot) != 4 or not is_row(robot[0]) or len(robot[0]) not in (1, 2):
            return at
        place, load, charge, home = robot
        if way_fault(hall, place) is not None or not is_int(load) or load < -1:
            return at
        if not is_int(charge) or not 0 <= charge <= full:
            return at
        if not is_below(home, hall.cells) or hall.kinds[home] != "park" or home in homes:
            return at
        homes.append(home)
    return None


def holds_fault(hall, many, value):
    if not is_row(value):
        return -1
    for at, pair in enumerate(value):
        if not is_row(pair) or len(pair) != 2 or not is_below(pair[0], hall.cells) or not is_below(pair[1], many):
            return at
        if at and pair[0] <= value[at - 1][0]:
            return at
    return None


def is_word(hall, many, word):
    if not is_row(word) or not word or not isinstance(word[0], str):
        return False
    name, rest = word[0], word[1:]
    if name in ("fall", "rise"):
        return len(rest) == 0
    if name == "take":
        return len(rest) == 1 and is_int(rest[0]) and rest[0] >= 0
    if name in ("start", "come", "deed", "break", "fetch"):
        return len(rest) == 1 and is_below(rest[0], many)
    if name in ("lose", "mend"):
        return len(rest) == 1 and is_below(rest[0], hall.cells)
    if name == "put":
        return len(rest) == 2 and is_below(rest[0], many) and is_below(rest[1], hall.cells)
    if name != "order" or len(rest) != 2 or not is_below(rest[0], hall.cells) or hall.kinds[rest[0]] != "station":
        return False
    goods = rest[1]
    if not is_row(goods) or not goods or not all(is_row(pair) and len(pair) == 2 for pair in goods):
        return False
    if not all(is_int(good) and good >= 0 and is_int(count) and count >= 1 for good, count in goods):
        return False
    return all(goods[at][0] < goods[at + 1][0] for at in range(len(goods) - 1))


def script_fault(hall, many, value):
    if not is_row(value):
        return -1
    for tick, words in enumerate(value):
        if not is_row(words) or not all(is_word(hall, many, word) for word in words):
            return tick
    return None


class AskedCase(PromiseCase):
    def asked(self, fault, error, value, call, *args):
        """That a value is told in tuples, or its fault."""
        if fault is None:
            self.tells(tupled(value), call, *args, value)
        else:
            self.told(error, fault, call, *args, value)

    def asked_all(self, faults, error, values, call, *args):
        for value in values:
            self.asked(faults(*args, value), error, value, call, *args)


class WayTest(AskedCase):
    def test_free_cells(self):
        self.tells((1, 4), free_cells, HALL)
        self.tells((), free_cells, read_drawing("PS"))
        self.told(InvalidHall, -1, free_cells, None)

    def test_ways(self):
        self.tells((0, 1, 2, 1, 4, 5), need_way, HALL, [0, 1, 2, 1, 4, 5])
        self.tells((3,), need_way, HALL, (3,))
        for value, at in (((), -1), ([], -1), (None, -1), ("01", -1), (7, -1), ((6,), 0), ((-1,), 0), ((True, 1), 0),
                          ((0, 0), 1), ((0, 2), 1), ((0, 1, True), 2), ((0, 1, 2, 3), 3), ((0, 1, None, 9), 2),
                          ((0, 4, 9), 1), (([0], 1), 0)):
            self.told(InvalidWay, at, need_way, HALL, value)
            self.told(InvalidWay, at, is_leg, HALL, value)

    def test_ways_go_one_way(self):
        self.tells((0, 1, 2), need_way, one_way(), (0, 1, 2))
        self.told(InvalidWay, 1, need_way, one_way(), (1, 0))
        self.told(InvalidWay, 2, need_way, one_way(), (1, 2, 1))

    def test_other_values(self):
        self.asked_all(way_fault, InvalidWay, odd_values(), need_way, HALL)
        for way in ((0,), (0, 1, 4, 5), [2, 1, 0, 3]):
            self.asked_all(way_fault, InvalidWay, changed_a_little(way), need_way, HALL)

    def test_legs(self):
        for way, expected in (((0, 1, 2), True), ((0,), True), ((1,), False), ((0, 3), True), ((0, 1), False),
                              ((1, 2), False), ((1, 4), False), ((0, 3, 4, 5), False), ((0, 1, 2, 5), False),
                              ((0, 1, 4, 1, 0), True), ((0, 1, 4, 3), True), ((0, 3, 0), False)):
            self.holds_just_if(expected, is_leg, HALL, way)
            self.holds_just_if(expected, is_leg, HALL, list(way))

    def test_legs_of_each_kind_of_end(self):
        for kind in ("park", "shelf", "station", "charger", "free"):
            hall = Hall((kind, "free", "park"), [(0, 1), (1, 2)])
            self.holds_just_if(kind != "free", is_leg, hall, (0, 1, 2))
            hall = Hall(("park", kind, "park"), [(0, 1), (1, 2)])
            self.holds_just_if(kind == "free", is_leg, hall, (0, 1, 2))


class PlanTest(AskedCase):
    def test_plans(self):
        self.tells(((0, 1, 1), (3, 3, 4)), need_plan, HALL, [[0, 1, 1], [3, 3, 4]])
        self.tells(((0,),), need_plan, HALL, ((0,),))
        # Robots may meet: that is asked elsewhere.
        self.tells(((0, 0), (0, 0)), need_plan, HALL, ((0, 0), (0, 0)))
        for value, robot in (((), -1), (None, -1), ("0", -1), (((),), 0), ((None, (0,)), 0), (((0, 1), (0,)), 1),
                             (((0,), (0, 1)), 1), (((0,), (0, 9)), 1), (((0, 2), (0,)), 0), (((0, 1), (3, 4), ()), 2),
                             (((0, 1), (3, 3, 3), 0), 1), (((0, True),), 0), (((0, 1), (6, 6)), 1), ((0, 1), 0)):
            self.told(InvalidPlan, robot, need_plan, HALL, value)

    def test_other_values(self):
        self.asked_all(plan_fault, InvalidPlan, odd_values(), need_plan, HALL)
        for plan in (((0, 1, 2), (3, 3, 4)), [[5]], ((0, 1), (1, 0), (4, 5))):
            self.asked_all(plan_fault, InvalidPlan, changed_a_little(plan), need_plan, HALL)
        self.asked_all(plan_fault, InvalidPlan, [((0, 1),), ((1, 0),), ((1, 1), (1, 2))], need_plan, one_way())

    def test_rows_without_waits(self):
        for row, way in (((0,), (0,)), ((0, 0, 0), (0,)), ((0, 0, 1, 1, 0, 0), (0, 1, 0)), ([3, 4, 4, 5], (3, 4, 5)),
                         ((0, 1, 2), (0, 1, 2)), ((7, 7, 9), (7, 9))):
            self.tells(way, way_of, row)
        chance = random.Random(1)
        for hall in random_halls(chance, 50, 6):
            row = [chance.randrange(hall.cells)]
            for _ in range(8):
                row.append(chance.choice((row[-1],) + hall.followers[row[-1]]))
            self.tells(need_way(hall, way_of(row)), way_of, row)


class RobotTest(AskedCase):
    def test_robots(self):
        value = [[[0, 1], -1, 0, 3], [[5], 7, 4, 0]]
        self.tells((((0, 1), -1, 0, 3), ((5,), 7, 4, 0)), need_robots, HALL, 4, value)
        self.tells((), need_robots, HALL, 1, ())
        self.told(InvalidRobots, 1, need_robots, HALL, 3, value)
        right = ((5,), 0, 1, 0)
        for wrong in (((), 0, 1, 3), ((0, 1, 2), 0, 1, 3), ((0, 2), 0, 1, 3), ((0, 0), 0, 1, 3), ((6,), 0, 1, 3),
                      (0, 0, 1, 3), ((0,), -2, 1, 3), ((0,), True, 1, 3), ((0,), None, 1, 3), ((0,), 0, -1, 3),
                      ((0,), 0, 5, 3), ((0,), 0, True, 3), ((0,), 0, 1, 1), ((0,), 0, 1, 2), ((0,), 0, 1, 0),
                      ((0,), 0, 1, 6), ((0,), 0, 1, None), ((0,), 0, 1), ((0,), 0, 1, 3, 0), None, "abcd"):
            self.told(InvalidRobots, 1, need_robots, HALL, 4, (right, wrong, None))
            self.told(InvalidRobots, 1, robots_meet, HALL, 4, [right, wrong])
            self.told(InvalidRobots, 1, unheld_cell, HALL, 4, [right, wrong], None)
        self.told(InvalidRobots, 1, need_robots, one_way(), 4, (((0, 1), 0, 0, 0), ((1, 0), 0, 0, 0)))
        self.told(InvalidRobots, 0, need_robots, one_way(), 4, (((1, 0), 0, 0, 0),))

    def test_full_charges(self):
        for full in no_integers() + [0, -1]:
            for call, more in ((need_robots, (None,)), (robots_meet, (None,)), (unheld_cell, (None, None))):
                self.told(InvalidSize, "full", call, HALL, full, *more)
        self.tells((((0,), -1, 10 ** 9, 0),), need_robots, HALL, 10 ** 9, (((0,), -1, 10 ** 9, 0),))

    def test_other_values(self):
        self.asked_all(robots_fault, InvalidRobots, odd_values(), need_robots, HALL, 4)
        for robots in ((((0, 1), 2, 3, 0),), [[[5], -1, 4, 3], [[3], 0, 0, 0]]):
            self.asked_all(robots_fault, InvalidRobots, changed_a_little(robots), need_robots, HALL, 4)

    def test_holds(self):
        self.tells(((0, 1), (3, 0), (5, 1)), need_holds, HALL, 2, [[0, 1], [3, 0], [5, 1]])
        self.tells((), need_holds, HALL, 0, [])
        for value, at in ((((0, 0), (0, 1)), 1), (((1, 0), (0, 0)), 1), (((0, 0), (0, 0)), 1), (((0, 2),), 0),
                          (((6, 0),), 0), (((0, 0), (1,)), 1), (((0, 0), (1, 0, 0)), 1), (((0, True),), 0), (None, -1),
                          (((True, 0),), 0), (((0, 0), None), 1), ("00", -1), (((0, -1),), 0), (((-1, 0),), 0)):
            self.told(InvalidHolds, at, need_holds, HALL, 2, value)
        self.told(InvalidHolds, 0, need_holds, HALL, 0, [(0, 0)])
        for many in no_integers() + [-1]:
            self.told(InvalidSize, "robots", need_holds, HALL, many, None)
        self.asked_all(holds_fault, InvalidHolds, odd_values(), need_holds, HALL, 2)
        self.asked_all(holds_fault, InvalidHolds, changed_a_little(((0, 1), (3, 0))), need_holds, HALL, 2)

    def test_meetings(self):
        robots = [((0, 1), -1, 0, 0), ((4,), -1, 0, 3)]
        self.tells(None, robots_meet, HALL, 1, robots)
        self.tells((1, 0, 1), robots_meet, HALL, 1, [robots[0], ((1,), -1, 0, 3)])
        self.tells((0, 0, 1), robots_meet, HALL, 1, [robots[0], ((1, 0), -1, 0, 3)])
        self.tells(None, robots_meet, HALL, 1, [])
        self.tells(None, robots_meet, HALL, 1, robots[:1])

    def test_holds_of_robots(self):
        robots = [((0, 1), -1, 0, 0), ((4,), -1, 0, 3)]
        self.tells(None, unheld_cell, HALL, 1, robots, [(0, 0), (1, 0), (4, 1), (5, 0)])
        self.tells((0, 1), unheld_cell, HALL, 1, robots, [(0, 0), (1, 1)])
        self.tells((1, 4), unheld_cell, HALL, 1, robots, [(0, 0), (1, 0), (4, 0)])
        self.tells((0, 0), unheld_cell, HALL, 1, robots, [])
        self.tells((0, 0), unheld_cell, HALL, 1, [((1, 0), -1, 0, 0)], [])
        self.told(InvalidHolds, 0, unheld_cell, HALL, 1, robots, [(0, 2)])
        self.told(InvalidHolds, -1, unheld_cell, HALL, 1, robots, None)

    def test_meetings_and_holds_by_chance(self):
        chance = random.Random(2)
        parks = read_drawing("PPP\n...\n...")
        for _ in range(600):
            robots = []
            for home in chance.sample((0, 1, 2), chance.randint(0, 3)):
                cell = chance.randrange(9)
                place = chance.choice(((cell,), (cell, chance.choice(parks.followers[cell]))))
                robots.append((place, -1, 0, home))
            holds = [(cell, chance.randrange(len(robots))) for cell in range(9) if robots and chance.random() < 0.6]
            both = [(cell, one, other) for cell in range(9) for one in range(len(robots)) for other in range(one)
                    if cell in robots[one][0] and cell in robots[other][0]]
            met = min([(cell, other, one) for cell, one, other in both], default=None)
            self.tells(met, robots_meet, parks, 1, robots)
            without = [(robot, cell) for robot in range(len(robots)) for cell in range(9)
                       if cell in robots[robot][0] and (cell, robot) not in holds]
            self.tells(min(without, default=None), unheld_cell, parks, 1, robots, holds)
            if not without:
                self.assertIsNone(met)


WORDS = (("order", 5, ((0, 1), (3, 2))), ("take", 9), ("start", 0), ("come", 1), ("deed", 0), ("break", 1), ("fetch", 0),
         ("put", 1, 4), ("lose", 5), ("mend", 0), ("fall",), ("rise",))


class ScriptTest(AskedCase):
    def test_words_of_every_kind(self):
        script = (WORDS, (), WORDS[:1])
        self.tells(script, need_script, HALL, 2, script)
        self.tells(script, need_script, HALL, 2, listed(script))
        self.tells((), need_script, HALL, 0, [])
        self.tells(((), ()), need_script, HALL, 0, [[], ()])
        self.assertTrue(is_tupled(need_script(HALL, 2, listed(script))))

    def test_wrong_words(self):
        for word in (("order", 4, ((0, 1),)), ("order", 5, ()), ("order", 5, ((0, 0),)), ("order", 5, ((0, 1), (0, 1))),
                     ("order", 5, ((1, 1), (0, 1))), ("order", 5, ((0, True),)), ("order", 5), ("order", 5, ((0, 1),), 0),
                     ("order", 5, ((-1, 1),)), ("order", 5, (0, 1)), ("order", 6, ((0, 1),)),
                     ("order", 5, None), ("order", 5, "01"), ("order", 5, 7), ("order", 5, (None,)), ("order", 5, ((0,),)),
                     (None, 5, ((0, 1),)), (["order"], 5, ((0, 1),)), ("order", True, ((0, 1),)), ("take", -1), ("take",),
                     ("take", True), ("take", 0, 0), ("start", 2), ("start", -1), ("start",), ("come", False), ("deed", None),
                     ("break", 2), ("fetch", 2), ("fetch", (0,)), ("put", 0), ("put", 2, 0), ("put", 0, 6), ("put", 0, 0, 0),
                     ("lose", 6), ("mend", -1), ("mend",), ("fall", 0), ("rise", None), ("deal",), (), "fall", ("Fall",),
                     None, (0,), ((0,), 0), ("tell", 0), ("fall", ), ):
            if word != ("fall",):
                self.told(InvalidScript, 1, need_script, HALL, 2, ([("fall",)], [("rise",), word], None))
        self.told(InvalidScript, 0, need_script, HALL, 0, [[("start", 0)]])
        for value in no_sequences():
            self.told(InvalidScript, -1, need_script, HALL, 2, value)
            self.told(InvalidScript, 1, need_script, HALL, 2, ((), value))
        for many in no_integers() + [-1]:
            self.told(InvalidSize, "robots", need_script, HALL, many, None)

    def test_other_values(self):
        self.asked_all(script_fault, InvalidScript, odd_values(), need_script, HALL, 2)
        for word in WORDS:
            self.asked_all(script_fault, InvalidScript, changed_a_little(((word,),)), need_script, HALL, 2)
            for name in [other[0] for other in WORDS] + ["deal", ""]:
                value = ((), ((name,) + word[1:],))
                self.asked(script_fault(HALL, 2, value), InvalidScript, value, need_script, HALL, 2)

    def test_later_changes_have_no_effect(self):
        goods = [[0, 1]]
        told = need_script(HALL, 2, [[["order", 5, goods]]])
        goods[0][0] = 7
        self.assertTrue(same(told, ((("order", 5, ((0, 1),)),),)))


if __name__ == "__main__":
    unittest.main()
