"""[24], [25], [26]: tasks, strict plans, and moves one by one."""

import itertools
import random
import unittest

from nobodymeets.errors import InvalidHall, InvalidPlan, InvalidSize, InvalidTask, Refused
from nobodymeets.halls import Hall, read_drawing
from nobodymeets.plans import (joint_plan, moves_plan, need_task, plan_clash, plan_costs, plan_holds, single_moves)
from nobodymeets.standings import standing_paper
from tests.hall_worlds import free_hall, random_hall, random_halls, tied_hall
from tests.helpers import (PromiseCase, changed_a_little, is_below, is_tupled, listed, no_sequences,
                           odd_values, tupled)

ROW = read_drawing("P.P")
BAY = read_drawing("P.P\n#.#")


def is_row(value):
    return isinstance(value, (list, tuple))


def task_fault(hall, value):
    """Where a value is wrong as a task: a robot, -1, or None."""
    if not is_row(value) or len(value) != 2 or not all(is_row(row) for row in value):
        return -1
    if len(value[0]) != len(value[1]) or not 1 <= len(value[0]) <= 6:
        return -1
    for robot in range(len(value[0])):
        for row in value:
            if not is_below(row[robot], hall.cells) or tupled(row[robot]) in tupled(row[:robot]):
                return robot
    return None


def is_plan(hall, value):
    if not isinstance(value, tuple) or not value:
        return False
    for row in value:
        if not isinstance(row, tuple) or not row or len(row) != len(value[0]):
            return False
        if not all(is_below(cell, hall.cells) for cell in row):
            return False
        if not all(one == other or (one, other) in hall.ways for one, other in zip(row, row[1:])):
            return False
    return True


def at(row, tick):
    """Where a robot is at any tick: behind its row's end it stays."""
    return row[min(tick, len(row) - 1)]


def held(row, tick):
    return {at(row, tick), at(row, tick + 1)}


def clash(plan):
    """The first clash, told tick by tick, some ticks farther than the plan goes."""
    for tick in range(len(plan[0]) + 2):
        for one, other in itertools.combinations(range(len(plan)), 2):
            both = held(plan[one], tick) & held(plan[other], tick)
            if both:
                return tick, one, other, min(both)
    return None


def costs(plan):
    comings = [min(tick for tick in range(len(row)) if set(row[tick:]) == {row[-1]}) for row in plan]
    return sum(comings), max(comings)


def ticks_after(hall, standing):
    """All standings a tick behind one, straight from what robots hold."""
    choices = [[cell] + [b for a, b in hall.ways if a == cell] for cell in standing]
    for after in itertools.product(*choices):
        rows = list(zip(standing, after))
        if not any(set(one) & set(other) for one, other in itertools.combinations(rows, 2)):
            yield after


def levels(hall, starts):
    """For each standing that comes the tick at which it comes first."""
    came, level, tick = {starts: 0}, [starts], 0
    while level:
        tick += 1
        found = {after for standing in level for after in ticks_after(hall, standing) if after not in came}
        came.update({standing: tick for standing in found})
        level = sorted(found)
    return came


def random_task(chance, hall, most):
    many = chance.randint(1, min(most, hall.cells))
    return tuple(chance.sample(range(hall.cells), many)), tuple(chance.sample(range(hall.cells), many))


def random_plan(chance, hall, robots, ticks):
    rows = [[chance.randrange(hall.cells)] for _ in range(robots)]
    for row in rows:
        for _ in range(ticks):
            row.append(chance.choice((row[-1],) * 2 + hall.followers[row[-1]]))
    return tuple(tuple(row) for row in rows)


class TaskTest(PromiseCase):
    def check(self, hall, value):
        fault = task_fault(hall, value)
        if fault is None:
            self.tells(tupled(value), need_task, hall, value)
        else:
            self.told(InvalidTask, fault, need_task, hall, value)

    def test_tasks(self):
        self.tells(((0, 2), (2, 0)), need_task, ROW, [[0, 2], [2, 0]])
        self.tells(((1,), (1,)), need_task, ROW, ((1,), (1,)))
        six = read_drawing("......")
        self.tells(((0, 1, 2, 3, 4, 5), (5, 4, 3, 2, 1, 0)), need_task, six, (range_row(6), range_row(6)[::-1]))
        for value, robot in (((), -1), (((0,),), -1), (((0,), (1,), (2,)), -1), (((), ()), -1), (((0, 1), (0,)), -1),
                             (((0,), (0, 1)), -1), (((0,), 1), -1), ((0, (1,)), -1), (None, -1), (("0", "1"), -1),
                             (((0, 0), (0, 1)), 1), (((0, 1), (2, 2)), 1), (((0, 3), (0, 1)), 1), (((0, 1), (0, 3)), 1),
                             (((True,), (0,)), 0), (((0,), (None,)), 0), (((0, 1, 0), (3, 1, 2)), 0),
                             (((0, 1, 0), (0, 1, 3)), 2), (((0, -1), (0, 1)), 1)):
            self.told(InvalidTask, robot, need_task, ROW, value)
            for call, more in ((plan_holds, (None,)), (joint_plan, ()), (moves_plan, (None,))):
                self.told(InvalidTask, robot, call, ROW, value, *more)
        self.told(InvalidTask, -1, need_task, read_drawing("......."), (range_row(7), range_row(7)))

    def test_other_values(self):
        for value in odd_values() + list(changed_a_little(((0, 2), (2, 1)))):
            self.check(ROW, value)
            self.check(ROW, [value, [0]])
            self.check(ROW, [[0], value])


def range_row(many):
    return tuple(range(many))


class ClashTest(PromiseCase):
    def test_examples(self):
        self.tells((1, 0, 1, 1), plan_clash, ROW, ((0, 1, 2), (2, 2, 1)))
        self.tells(None, plan_clash, ROW, ((0, 1, 1), (2, 2, 2)))
        self.tells((1, 1), plan_costs, ((0, 1, 1), (2, 2, 2)))

    def test_a_plan_of_one_tick(self):
        self.tells(None, plan_clash, ROW, ((0,), (2,)))
        self.tells((0, 0, 1, 2), plan_clash, ROW, ((2,), (2,)))
        self.tells((0, 1, 2, 1), plan_clash, ROW, ((2,), (1,), (1,)))
        self.tells((), single_moves, ROW, ((0,), (2,)))
        self.told(Refused, 0, single_moves, ROW, ((2,), (2,)))
        self.tells((0, 0), plan_costs, ((7,), (7,)))

    def test_robots_that_exchange_their_cells(self):
        pair = read_drawing("..")
        self.tells((0, 0, 1, 0), plan_clash, pair, ((0, 1), (1, 0)))
        self.tells((1, 0, 1, 0), plan_clash, pair, ((1, 1, 0), (0, 0, 1)))
        self.holds_just_if(False, plan_holds, pair, ((0, 1), (1, 0)), ((0, 1), (1, 0)))
        self.told(Refused, 0, single_moves, pair, ((0, 1), (1, 0)))

    def test_one_that_follows_another(self):
        self.tells((0, 0, 1, 1), plan_clash, ROW, ((0, 1), (1, 2)))
        self.tells(None, plan_clash, ROW, ((0, 0, 1), (1, 2, 2)))
        self.tells((0, 0, 1, 1), plan_clash, ROW, ((1, 2), (0, 1)))
        # Both go into one cell.
        self.tells((0, 0, 1, 1), plan_clash, ROW, ((0, 1), (2, 1)))

    def test_the_first_by_tick_then_one_other_cell(self):
        hall = read_drawing("....")
        self.tells((0, 0, 2, 1), plan_clash, hall, ((0, 1), (3, 2), (2, 1)))
        self.tells((0, 0, 1, 0), plan_clash, hall, ((0, 1, 2), (1, 0, 0)))
        self.tells((1, 0, 2, 1), plan_clash, hall, ((0, 0, 1), (3, 3, 2), (2, 2, 1)))
        self.tells((1, 1, 2, 2), plan_clash, hall, ((0, 0, 0), (3, 3, 2), (2, 2, 1)))
        self.tells((0, 0, 1, 1), plan_clash, hall, ((0, 1), (2, 1), (1, 0), (1, 1)))

    def test_plans_by_chance(self):
        chance = random.Random(1)
        for hall in random_halls(chance, 800, 6):
            plan = random_plan(chance, hall, chance.randint(1, 4), chance.randint(0, 5))
            self.tells(clash(plan), plan_clash, hall, plan)
            self.tells(clash(plan), plan_clash, hall, listed(plan))
            self.tells(costs(plan), plan_costs, plan)
            starts, goals = tuple(row[0] for row in plan), tuple(row[-1] for row in plan)
            if len(set(starts)) == len(set(goals)) == len(plan):
                self.holds_just_if(clash(plan) is None, plan_holds, hall, (starts, goals), plan)

    def test_wrong_plans(self):
        for plan, robot in ((None, -1), ((), -1), (((0, 2),), 0), (((0, 1), (0,)), 1), (((0, 1), (0, True)), 1)):
            for call in (plan_clash, single_moves):
                self.told(InvalidPlan, robot, call, ROW, plan)

    def test_costs_are_of_any_numbers(self):
        self.tells((5, 3), plan_costs, [[9, 9, 7, 9], (10 ** 9, 0, 5, 5)])
        self.tells((0, 0), plan_costs, [[9, 9, 9, 9]])
        self.tells((3, 3), plan_costs, [[9, 9, 8, 9]])
        self.tells((1, 1), plan_costs, [[0, 9, 9, 9]])
        for plan in no_sequences() + [(), ((),), ((1,), ()), ((), (1,)), ((1,), (1, 2)), ((1, 2), (1,)), ((-1,),),
                                      ((True,),), ((None,),), (("1",),), (1,), ((1,), None), ("12", "12")]:
            self.told(InvalidPlan, -1, plan_costs, plan)


class HoldsTest(PromiseCase):
    def expected(self, hall, task, value):
        return (is_plan(hall, value) and clash(value) is None and len(value) == len(task[0])
                and tuple(row[0] for row in value) == task[0] and tuple(row[-1] for row in value) == task[1])

    def test_plans(self):
        task = ((0, 2), (2, 0))
        plan = ((0, 1, 3, 3, 1, 2), (2, 2, 2, 2, 2, 2))
        good = ((0, 1, 3, 3, 3, 3, 1, 2), (2, 2, 2, 1, 0, 0, 0, 0))
        self.holds_just_if(True, plan_holds, BAY, task, good)
        self.holds_just_if(False, plan_holds, BAY, task, plan)
        self.holds_just_if(False, plan_holds, BAY, task, listed(good))
        self.holds_just_if(False, plan_holds, BAY, task, (list(good[0]), good[1]))
        self.holds_just_if(False, plan_holds, BAY, task, good[::-1])
        self.holds_just_if(False, plan_holds, BAY, ((2, 0), (0, 2)), good)
        self.holds_just_if(True, plan_holds, BAY, [[2, 0], [0, 2]], good[::-1])
        for value in changed_a_little(good):
            self.holds_just_if(self.expected(BAY, task, value), plan_holds, BAY, task, value)

    def test_start_and_goal_alike(self):
        self.holds_just_if(True, plan_holds, ROW, ((0, 2), (0, 2)), ((0,), (2,)))
        self.holds_just_if(True, plan_holds, ROW, ((0,), (0,)), ((0, 1, 0),))
        self.holds_just_if(False, plan_holds, ROW, ((0,), (0,)), ((0, 1),))
        self.holds_just_if(False, plan_holds, ROW, ((0,), (0,)), ((),))
        self.holds_just_if(False, plan_holds, ROW, ((0,), (0,)), ())

    def test_any_value(self):
        for value in odd_values():
            for item in (value, (value,), (value, value), ((value,), (value,)), ((0, value), (2, value))):
                self.holds_just_if(self.expected(ROW, ((0, 2), (0, 2)), item), plan_holds, ROW, ((0, 2), (0, 2)), item)


class JointTest(PromiseCase):
    def test_start_and_goal_alike(self):
        self.tells(((0,), (2,)), joint_plan, ROW, ((0, 2), (0, 2)))
        self.tells(((1,),), joint_plan, ROW, ((1,), (1,)))

    def test_none(self):
        self.tells(None, joint_plan, ROW, ((0, 2), (2, 0)))
        self.tells(None, joint_plan, read_drawing(".."), ((0, 1), (1, 0)))
        self.tells(None, joint_plan, read_drawing("P>H"), ((2,), (0,)))
        self.tells(None, joint_plan, read_drawing(".#."), ((0,), (1,)))

    def test_two_that_pass_in_a_bay(self):
        plan = joint_plan(BAY, ((0, 2), (2, 0)))
        self.assertTrue(plan_holds(BAY, ((0, 2), (2, 0)), plan))
        self.assertEqual(len(plan[0]) - 1, levels(BAY, (0, 2))[(2, 0)])

    def test_plans_by_chance(self):
        chance = random.Random(2)
        for _ in range(400):
            hall = random_hall(chance, 6)
            task = random_task(chance, hall, 4)
            came = levels(hall, task[0])
            plan = joint_plan(hall, task)
            if task[1] not in came:
                self.assertIsNone(plan)
                continue
            self.assertTrue(is_tupled(plan) and HoldsTest.expected(self, hall, task, plan))
            self.holds_just_if(True, plan_holds, hall, task, plan)
            self.assertEqual(len(plan[0]) - 1, came[task[1]])
            self.assertEqual(plan_costs(plan)[1], came[task[1]])

    def test_more_standings_than_are_let(self):
        # 12 * 11 * 10 * 9 * 8 standings of five robots, most of which come.
        wide = read_drawing("....\n....\n....")
        task = ((0, 1, 2, 3, 4), (11, 10, 9, 8, 7))
        self.told(InvalidSize, "standings", joint_plan, wide, task)
        # So many come, too, where none is the goal's.
        shut = read_drawing("....\n....\n....\n###.")
        shut = Hall(shut.kinds, [way for way in shut.ways if way[1] != 12])
        self.told(InvalidSize, "standings", joint_plan, shut, ((0, 1, 2, 3, 4), (12, 10, 9, 8, 7)))
        # Near goals are come to ahead of that.
        self.tells(((0, 0), (1, 1), (2, 2), (3, 3), (4, 8)), joint_plan, wide, ((0, 1, 2, 3, 4), (0, 1, 2, 3, 8)))

    def test_just_so_many_standings(self):
        # Two robots in the middles of two stars: in a tick each comes to any cell of its star.
        for first, second, is_told in ((200, 100, True), (177, 113, False)):
            self.assertEqual(first * second, 20000 if is_told else 20001)
            ties = [(0, cell) for cell in range(1, first)] + [(first, first + cell) for cell in range(1, second)]
            hall = tied_hall("." * (first + second), ties)
            task = ((0, first), (first - 1, first + second - 1))
            if is_told:
                self.tells(((0, first - 1), (first, first + second - 1)), joint_plan, hall, task)
            else:
                self.told(InvalidSize, "standings", joint_plan, hall, task)
            self.tells(((0,), (first,)), joint_plan, hall, ((0, first), (0, first)))

    def test_errors_in_order(self):
        self.told(InvalidHall, -1, joint_plan, None, None)
        self.told(InvalidTask, -1, joint_plan, ROW, None)


class MovesTest(PromiseCase):
    def test_single_moves(self):
        plan = ((0, 1, 3, 3, 3, 3, 1, 2), (2, 2, 2, 1, 0, 0, 0, 0))
        self.tells(((0, 1), (0, 3), (1, 1), (1, 0), (0, 1), (0, 2)), single_moves, BAY, plan)
        both = read_drawing("....")
        self.tells(((0, 1), (1, 2)), single_moves, both, ((0, 1), (3, 2)))
        self.tells(((1, 2), (0, 1)), single_moves, both, ((0, 0, 1), (3, 2, 2)))

    def test_single_moves_do_the_same(self):
        chance = random.Random(3)
        count = 0
        for hall in random_halls(chance, 1500, 8):
            plan = random_plan(chance, hall, chance.randint(1, 3), chance.randint(0, 4))
            if clash(plan) is not None:
                self.told(Refused, clash(plan)[0], single_moves, hall, plan)
                continue
            count += 1
            moves = single_moves(hall, plan)
            self.assertTrue(is_tupled(moves))
            expected = tuple((robot, plan[robot][tick]) for tick in range(1, len(plan[0]))
                             for robot in range(len(plan)) if plan[robot][tick] != plan[robot][tick - 1])
            self.assertEqual(moves, expected)
            standing = [row[0] for row in plan]
            for robot, cell in moves:
                self.assertTrue((standing[robot], cell) in hall.ways and cell not in standing)
                standing[robot] = cell
            self.assertEqual(standing, [row[-1] for row in plan])
            task = (tuple(row[0] for row in plan), tuple(standing))
            made = moves_plan(hall, task, moves)
            self.assertTrue(HoldsTest.expected(self, hall, task, made))
            self.assertEqual(len(made[0]), len(moves) + 1)
            self.assertEqual(single_moves(hall, made), moves)
        self.assertGreater(count, 300)

    def test_plans_of_moves(self):
        self.tells(((0, 1, 1), (2, 2, 3)), moves_plan, read_drawing("...."), ((0, 2), (1, 3)), [[0, 1], [1, 3]])
        self.tells(((0,), (2,)), moves_plan, ROW, ((0, 2), (0, 2)), ())

    def test_wrong_moves(self):
        hall, task = read_drawing("...."), ((0, 2), (1, 3))
        for moves, number in ((None, -1), ("", -1), (0, -1), ((None,), 0), (((0, 1), (0, 2)), 1), (((0, 1), (1, 1)), 1),
                              (((0, 2),), 0), (((2, 1),), 0), (((-1, 1),), 0), (((True, 3),), 0), (((0, True),), 0),
                              (((0, 1, 0),), 0), (((0,),), 0), (((0, 1), (1, 3), (0, 1)), 2), (((0, 1), (1, 4)), 1),
                              (((0, 0),), 0), (("01",), 0), (((0, 1), (1, None)), 1), ((), 0), (((0, 1),), 1),
                              (((0, 1), (1, 3), (1, 2)), 3), (((0, 1), (1, 3), (0, 0), (1, 2)), 4)):
            self.told(Refused, number, moves_plan, hall, task, moves)
        for value in odd_values():
            self.told(Refused, 1, moves_plan, hall, task, [(0, 1), value])
        one_way = free_hall(2, [(0, 1)])
        self.told(Refused, 1, moves_plan, one_way, ((0,), (0,)), [(0, 1), (0, 0)])

    def test_a_task_has_a_plan_just_if_moves_are_told(self):
        chance = random.Random(4)
        for _ in range(150):
            hall = random_hall(chance, 6)
            hall = Hall(hall.kinds, sorted({pair for one, other in hall.ways for pair in ((one, other), (other, one))}))
            task = random_task(chance, hall, 3)
            paper = standing_paper(hall, tuple(enumerate(task[0])), tuple(enumerate(task[1])))
            plan = joint_plan(hall, task)
            self.assertEqual(paper[0] == "moves", plan is not None)
            if plan is not None:
                made = moves_plan(hall, task, paper[1])
                self.holds_just_if(True, plan_holds, hall, task, made)


if __name__ == "__main__":
    unittest.main()
