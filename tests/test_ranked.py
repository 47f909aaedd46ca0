"""[27], [28]: plans by rank."""

import itertools
import random
import unittest

from nobodymeets.errors import InvalidHall, InvalidSize, InvalidTask, Refused
from nobodymeets.halls import Hall, read_drawing
from nobodymeets.plans import plan_costs, plan_holds
from nobodymeets.ranked import rank_bound, ranked_plan
from tests.hall_worlds import free_hall, led_to, random_hall, tied_hall
from tests.helpers import PromiseCase, is_tupled, listed, no_integers, no_sequences, odd_values
from tests.test_plans import at, held, random_task

ROW = read_drawing("P.P")
BAY = read_drawing("P.P\n#.#")


def first_least_row(hall, start, goal, ahead, standing, last):
    """The first of the rows with the least coming, by trying all rows as they grow, up to a last tick."""

    def is_let(tick, cell):
        """Whether a robot may hold a cell in a tick."""
        return cell not in standing and all(cell not in held(row, tick) for row in ahead)

    rows = {start: (start,)}
    for tick in range(last + 1):
        if goal in rows and all(is_let(later, goal) for later in range(tick, last + 2)):
            return rows[goal]
        after = {}
        for row in sorted(rows.values()):
            if is_let(tick, row[-1]):
                for cell in [row[-1]] + [b for a, b in hall.ways if a == row[-1]]:
                    if is_let(tick, cell) and row + (cell,) < after.get(cell, (hall.cells,)):
                        after[cell] = row + (cell,)
        rows = after
    return None


def plain_plan(hall, task, ranks):
    """[27]: the plan, or the robot that has none, straight from the document."""
    rows = {}
    for place, robot in enumerate(ranks):
        standing = [task[0][other] for other in ranks[place + 1:]]
        last = max([len(row) for row in rows.values()], default=1) + hall.cells + 2
        row = first_least_row(hall, task[0][robot], task[1][robot], list(rows.values()), standing, last)
        if row is None:
            return robot
        rows[robot] = row
    last = max(map(len, rows.values()))
    return tuple(tuple(at(rows[robot], tick) for tick in range(last)) for robot in range(len(ranks)))


def has_own_way(hall, task, robot):
    """Whether a robot has a way to its goal that meets no other's start or goal."""
    others = {row[other] for row in task for other in range(len(task[0])) if other != robot}
    start, goal = task[0][robot], task[1][robot]
    if start in others or goal in others:
        return False
    return start == goal or goal in led_to(hall, [start], lambda cell: cell not in others and cell != goal)


class RankedTest(PromiseCase):
    def check(self, hall, task, ranks):
        expected = plain_plan(hall, task, ranks)
        if isinstance(expected, int):
            self.told(Refused, expected, ranked_plan, hall, task, ranks)
            return None
        self.tells(expected, ranked_plan, hall, task, ranks)
        self.assertTrue(is_tupled(expected))
        self.holds_just_if(True, plan_holds, hall, task, expected)
        return expected

    def test_one_robot(self):
        self.tells(((0, 1, 2),), ranked_plan, ROW, ((0,), (2,)), (0,))
        self.tells(((1,),), ranked_plan, ROW, [[1], [1]], [0])
        self.told(Refused, 0, ranked_plan, read_drawing("P>H"), ((2,), (0,)), (0,))

    def test_start_and_goal_alike(self):
        self.tells(((0,), (2,)), ranked_plan, ROW, ((0, 2), (0, 2)), (1, 0))
        self.tells(((0, 0), (2, 2), (1, 3)), ranked_plan, BAY, ((0, 2, 1), (0, 2, 3)), (2, 0, 1))

    def test_the_first_of_the_least_rows(self):
        square = read_drawing("..\n..")
        self.tells(((0, 1, 3),), ranked_plan, square, ((0,), (3,)), (0,))
        # Whoever has to wait waits where the row is first by cells, tick by tick.
        hall = tied_hall("....", [(0, 1), (1, 2), (1, 3)])
        self.check(hall, ((0, 2), (3, 0)), (0, 1))
        self.check(hall, ((0, 2), (3, 0)), (1, 0))

    def test_a_rank_that_lets_nobody_through(self):
        for ranks in ((0, 1), (1, 0)):
            self.told(Refused, ranks[0], ranked_plan, ROW, ((0, 2), (2, 0)), ranks)
        # Robot 1 is at home for ever in the cell through which robot 0 must go.
        for ranks in ((0, 1), (1, 0)):
            self.told(Refused, 0, ranked_plan, read_drawing("..."), ((0, 1), (2, 1)), ranks)
        # Ahead of robot 1, which leaves the door, nobody gets through; behind it somebody does.
        hall = read_drawing("...\n#.#")
        self.told(Refused, 0, ranked_plan, hall, ((0, 1), (2, 3)), (0, 1))
        self.tells(((0, 0, 1, 2), (1, 3, 3, 3)), ranked_plan, hall, ((0, 1), (2, 3)), (1, 0))

    def test_a_goal_that_is_gone_through_later(self):
        # Robot 1 is at its goal at once, but robot 0 still goes through it: so it can't stay.
        hall = read_drawing("#.#\n...")
        self.check(hall, ((1, 0), (3, 2)), (0, 1))
        self.check(hall, ((1, 2), (3, 2)), (0, 1))
        self.check(read_drawing("....\n#..#"), ((0, 4), (3, 1)), (0, 1))

    def test_plans_by_chance(self):
        chance = random.Random(1)
        plans = 0
        for _ in range(900):
            hall = random_hall(chance, 7, least=2)
            task = random_task(chance, hall, 4)
            ranks = list(range(len(task[0])))
            chance.shuffle(ranks)
            plans += self.check(hall, task, tuple(ranks)) is not None
        self.assertGreater(plans, 200)

    def test_by_rank_it_always_goes(self):
        chance = random.Random(2)
        count = 0
        for _ in range(1500):
            hall = random_hall(chance, 8, least=3)
            task = random_task(chance, hall, 3)
            if not all(has_own_way(hall, task, robot) for robot in range(len(task[0]))):
                continue
            count += 1
            for ranks in itertools.permutations(range(len(task[0]))):
                plan = ranked_plan(hall, task, ranks)
                self.holds_just_if(True, plan_holds, hall, task, plan)
                self.assertLessEqual(plan_costs(plan)[1], rank_bound(hall, len(ranks)))
        self.assertGreater(count, 200)

    def test_from_parks_to_parks(self):
        hall = read_drawing("P.P.P\n.....\nP.P.P")
        parks = hall.cells_of("park")
        chance = random.Random(3)
        for _ in range(25):
            cells = chance.sample(parks, 6)
            task = (tuple(cells[:3]), tuple(cells[3:]))
            for ranks in itertools.permutations(range(3)):
                self.holds_just_if(True, plan_holds, hall, task, ranked_plan(hall, task, ranks))

    def test_large_halls(self):
        hall = read_drawing("\n".join(["." * 10] * 6))
        task = ((0, 9, 50, 59, 30, 39), (58, 51, 8, 1, 38, 31))
        plan = ranked_plan(hall, task, (5, 0, 3, 1, 2, 4))
        self.holds_just_if(True, plan_holds, hall, task, plan)

    def test_wrong_arguments(self):
        for ranks in no_sequences() + [(), (0,), (0, 0), (0, 1, 2), (1, 2), (0, True), (False, 1), (0, None), ("0", "1"),
                                       "01", (-1, 0), ((0,), (1,)), {0: 1, 1: 0}]:
            self.told(InvalidTask, -1, ranked_plan, ROW, ((0, 1), (0, 1)), ranks)
        self.told(InvalidTask, 1, ranked_plan, ROW, ((0, 0), (0, 1)), None)
        for value in odd_values():
            if not isinstance(value, Hall):
                self.told(InvalidHall, -1, ranked_plan, value, None, None)
                self.told(InvalidHall, -1, rank_bound, value, None)

    def test_bounds(self):
        self.tells(0, rank_bound, ROW, 0)
        self.tells(12, rank_bound, ROW, 3)
        self.tells(2 * 10 ** 9, rank_bound, free_hall(1, ()), 10 ** 9)
        for value in no_integers() + [-1]:
            self.told(InvalidSize, "robots", rank_bound, ROW, value)

    def test_lists(self):
        self.tells(((0, 1, 2),), ranked_plan, ROW, listed(((0,), (2,))), [0])


if __name__ == "__main__":
    unittest.main()
