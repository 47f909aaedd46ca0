"""Chapter 10's head, [39], [40], [41] (loose_passings): robots without names."""

import itertools
import random
import unittest

from nobodymeets.errors import InvalidHall, InvalidPlan, InvalidTask, Refused
from nobodymeets.flows import most_rows
from nobodymeets.halls import Hall, read_drawing
from nobodymeets.passings import passing_paper
from nobodymeets.prices import way_table
from nobodymeets.unnamed import (loose_fault, loose_passings, moves_hold, moves_paper, turned_plan, unnamed_holds,
                                 unnamed_paper)
from tests.hall_worlds import free_hall, random_hall, steps
from tests.helpers import (PromiseCase, changed_a_little, is_below, is_int, is_rising, is_tupled, listed, odd_values,
                           same)
from tests.test_flows import layers
from tests.test_plans import random_plan, random_task

ROW = read_drawing("...")
RING = free_hall(3, [(0, 1), (1, 2), (2, 0)])


def is_row(hall, row):
    """Whether a value is cells, each the one before or next to it."""
    return all(is_below(cell, hall.cells) for cell in row) and all(
        one == other or (one, other) in hall.ways for one, other in zip(row, row[1:]))


def rings(plan, tick):
    """The rings that turn from a tick to the next, told robot by robot."""
    found = []
    for many in range(2, len(plan) + 1):
        for robots in itertools.permutations(range(len(plan)), many):
            if robots[0] == min(robots) and all(plan[one][tick + 1] == plan[other][tick] for one, other in zip(
                    robots, robots[1:] + robots[:1])):
                found.append(robots)
    return sorted(found)


def fault(plan):
    """Chapter 10: what is first wrong with a plan."""
    for tick in range(len(plan[0])):
        for one, other in itertools.combinations(range(len(plan)), 2):
            if plan[one][tick] == plan[other][tick]:
                return ("meet", tick, one, other)
        if tick + 1 < len(plan[0]) and rings(plan, tick):
            return ("ring", tick, rings(plan, tick)[0])
    return None


def moves_in(plan):
    return sum(one != other for row in plan for one, other in zip(row, row[1:]))


def is_loose(hall, task, value):
    if not isinstance(value, tuple) or len(value) != len(task[0]):
        return False
    if not all(isinstance(row, tuple) and row and is_row(hall, row) and len(row) == len(value[0]) for row in value):
        return False
    if tuple(row[0] for row in value) != tuple(task[0]) or {row[-1] for row in value} != set(task[1]):
        return False
    return fault(value) is None


def is_shut(hall, task, lot):
    if not isinstance(lot, tuple) or not all(is_below(cell, hall.cells) for cell in lot) or not is_rising(lot):
        return False
    if any(one in lot and other not in lot for one, other in hall.ways):
        return False
    return len(set(task[0]) & set(lot)) > len(set(task[1]) & set(lot))


def are_gates(hall, task, ticks, gates):
    if not isinstance(gates, tuple):
        return False
    for gate in gates:
        if not isinstance(gate, tuple) or len(gate) != 2 or not is_below(gate[0], ticks + 1):
            return False
        if not is_below(gate[1], hall.cells):
            return False
    return is_rising(gates) and len(gates) < len(task[0]) and not layers(hall, task, ticks, gates)


def is_unnamed(hall, task, value):
    """[39]: straight from the document."""
    if not isinstance(value, tuple) or not value or not isinstance(value[0], str):
        return False
    if value[0] == "shut":
        return len(value) == 2 and is_shut(hall, task, value[1])
    if value[0] != "plan" or len(value) != 3 or not is_loose(hall, task, value[1]):
        return False
    ticks = len(value[1][0]) - 1
    return same(value[2], ()) if ticks == 0 else are_gates(hall, task, ticks - 1, value[2])


def is_moves(hall, task, value):
    """[40]: straight from the document."""
    if not isinstance(value, tuple) or not value or not isinstance(value[0], str):
        return False
    if value[0] == "shut":
        return len(value) == 2 and is_shut(hall, task, value[1])
    if value[0] != "moves" or len(value) != 3 or not isinstance(value[1], tuple) or not isinstance(value[2], tuple):
        return False
    cells = list(task[0])
    for move in value[1]:
        if not isinstance(move, tuple) or len(move) != 2 or not is_below(move[0], len(cells)):
            return False
        if not is_below(move[1], hall.cells) or move[1] in cells or (cells[move[0]], move[1]) not in hall.ways:
            return False
        cells[move[0]] = move[1]
    heights = value[2]
    if set(cells) != set(task[1]) or len(heights) != hall.cells or not all(is_int(h) and h >= 0 for h in heights):
        return False
    if any(heights[one] - heights[other] > 1 for one, other in hall.ways):
        return False
    return sum(heights[cell] for cell in task[0]) - sum(heights[cell] for cell in task[1]) == len(value[1])


def can_all_come(hall, task):
    """Whether each robot can be led to a goal of its own, by some order of the goals."""
    return any(all(steps(hall, one, other) is not None for one, other in zip(task[0], goals))
               for goals in itertools.permutations(task[1]))


def fewest_ticks(hall, task):
    """The fewest ticks of a loose plan, by all standings without names."""
    level, tick, known = {frozenset(task[0])}, 0, set()
    while level:
        if frozenset(task[1]) in level:
            return tick
        known |= level
        after = set()
        for cells in level:
            cells = tuple(cells)
            for step in itertools.product(*[(cell,) + hall.followers[cell] for cell in cells]):
                if len(set(step)) == len(step) and not rings(tuple(zip(cells, step)), 0):
                    after.add(frozenset(step))
        level, tick = after - known, tick + 1
    return None


def fewest_moves(hall, task):
    """The fewest moves into empty cells, by all standings without names."""
    level, many, known = {frozenset(task[0])}, 0, set()
    while level:
        if frozenset(task[1]) in level:
            return many
        known |= level
        level = {cells - {one} | {other} for cells in level for one, other in hall.ways
                 if one in cells and other not in cells} - known
        many += 1
    return None


def random_tasks(seed, many, most=6, robots=4):
    chance = random.Random(seed)
    for _ in range(many):
        hall = random_hall(chance, most)
        yield hall, random_task(chance, hall, robots)


def random_rows(chance, hall, many, ticks):
    """Rows of robots no two of which are in one cell at a tick; rings may turn."""
    cells = chance.sample(range(hall.cells), many)
    rows = [[cell] for cell in cells]
    for _ in range(ticks):
        for _ in range(20):
            step = [chance.choice((row[-1],) + hall.followers[row[-1]]) for row in rows]
            if len(set(step)) == many:
                break
        else:
            step = [row[-1] for row in rows]
        for row, cell in zip(rows, step):
            row.append(cell)
    return tuple(map(tuple, rows))


class FaultTest(PromiseCase):
    def test_a_loose_plan_of_one_tick(self):
        self.tells(None, loose_fault, ROW, ((0,), (2,)))
        self.tells(("meet", 0, 0, 1), loose_fault, ROW, [[0], [0]])
        self.tells((((0,), (2,)), ((0, ((0, 0),)), (2, ((1, 0),)))), loose_passings, ROW, ((0,), (2,)))
        self.tells(((0,), (2,)), turned_plan, ROW, [[0], [2]])

    def test_robots_that_exchange(self):
        self.tells(("ring", 0, (0, 1)), loose_fault, ROW, ((0, 1, 2), (1, 0, 0)))
        self.tells(("ring", 1, (0, 2)), loose_fault, read_drawing("...."), ((1, 1, 2), (3, 3, 3), (2, 2, 1)))
        # A train goes on into cells that are left in the same tick.
        self.tells(None, loose_fault, ROW, ((0, 1), (1, 2)))

    def test_rings_of_all_and_of_some(self):
        self.tells(("ring", 0, (0, 1, 2)), loose_fault, RING, ((0, 1), (1, 2), (2, 0)))
        self.tells(("ring", 0, (0, 2, 1)), loose_fault, RING, ((0, 1), (2, 0), (1, 2)))
        self.tells(None, loose_fault, RING, ((0, 1), (1, 2)))

    def test_two_rings_in_one_tick(self):
        hall = read_drawing("....")
        plan = ((2, 3), (0, 1), (3, 2), (1, 0))
        self.tells(("ring", 0, (0, 2)), loose_fault, hall, plan)
        self.tells(((2, 2), (0, 0), (3, 3), (1, 1)), turned_plan, hall, plan)

    def test_meetings_come_ahead_of_rings_at_one_tick(self):
        hall = read_drawing("....")
        self.tells(("meet", 0, 1, 3), loose_fault, hall, ((0, 1), (3, 3), (1, 0), (3, 3)))
        self.tells(("ring", 0, (0, 2)), loose_fault, hall, ((0, 1), (3, 2), (1, 0), (2, 2)))
        self.tells(("meet", 1, 1, 3), loose_fault, hall, ((0, 0), (3, 2), (1, 1), (2, 2)))

    def test_plans_by_chance(self):
        chance = random.Random(1)
        seen = {}
        for _ in range(900):
            hall = random_hall(chance, 5)
            many = chance.randint(1, min(4, hall.cells))
            plan = random_plan(chance, hall, many, chance.randint(0, 4)) if chance.random() < 0.5 else random_rows(
                chance, hall, many, chance.randint(0, 4))
            expected = fault(plan)
            seen[expected and expected[0]] = seen.get(expected and expected[0], 0) + 1
            self.tells(expected, loose_fault, hall, plan)
            self.tells(expected, loose_fault, hall, listed(plan))
        self.assertTrue(all(seen[word] > 30 for word in (None, "meet", "ring")), seen)

    def test_wrong_plans(self):
        for call in (loose_fault, turned_plan, loose_passings):
            for value in odd_values():
                if not isinstance(value, Hall):
                    self.told(InvalidHall, -1, call, value, None)
                if not isinstance(value, (list, tuple)) or not value:
                    self.told(InvalidPlan, -1, call, ROW, value)
                if value != (0,) and value != [0]:
                    self.told(InvalidPlan, 1, call, ROW, ((0,), value, None))
            self.told(InvalidPlan, 0, call, ROW, ((0, 2), (1,)))


class TurnedTest(PromiseCase):
    def test_example(self):
        self.tells(((0, 0, 0), (1, 1, 2)), turned_plan, ROW, ((0, 1, 2), (1, 0, 0)))

    def test_a_robot_that_stays(self):
        self.tells(((0, 0, 0), (1, 1, 1), (2, 2, 2)), turned_plan, ROW, ((0, 1, 0), (1, 0, 1), (2, 2, 2)))

    def test_plans_by_chance(self):
        chance = random.Random(2)
        turned = 0
        for _ in range(700):
            hall = random_hall(chance, 5)
            plan = random_rows(chance, hall, chance.randint(1, min(5, hall.cells)), chance.randint(0, 6))
            told = turned_plan(hall, plan)
            turned += told != plan
            self.assertTrue(is_tupled(told) and fault(told) is None and all(is_row(hall, row) for row in told))
            self.assertEqual([set(cells) for cells in zip(*told)], [set(cells) for cells in zip(*plan)])
            self.assertLessEqual(moves_in(told), moves_in(plan))
            self.assertEqual(told, self.by_ticks(plan))
        self.assertGreater(turned, 60)

    def by_ticks(self, plan):
        """[39]: whoever is in a ring stays, and goes on as the one that came to its cell did."""
        rows = [list(row) for row in plan]
        for tick in range(len(plan[0]) - 1):
            before = [list(row) for row in rows]
            for ring in rings(before, tick):
                for one, other in zip(ring, ring[1:] + ring[:1]):
                    rows[other][tick + 1:] = before[one][tick + 1:]
        return tuple(map(tuple, rows))

    def test_plans_with_a_meeting(self):
        self.told(Refused, 1, turned_plan, ROW, ((0, 1, 0), (2, 1, 2)))
        self.told(Refused, 2, turned_plan, ROW, ((0, 1, 1), (1, 0, 1)))
        self.told(Refused, 0, turned_plan, ROW, ((0, 1), (1, 0), (0, 1)))


class PassingTest(PromiseCase):
    def test_example(self):
        self.tells((((0, 1), (1, 2)), ((0, ((0, 0),)), (1, ((1, 0), (0, 1))), (2, ((1, 1),)))), loose_passings, ROW,
                   ((0, 1), (1, 2)))

    def test_loose_passings_are_live(self):
        chance = random.Random(3)
        found = 0
        for _ in range(700):
            hall = random_hall(chance, 5)
            plan = random_rows(chance, hall, chance.randint(1, min(5, hall.cells)), chance.randint(0, 6))
            if fault(plan) is not None:
                self.told(Refused, fault(plan)[1], loose_passings, hall, plan)
                plan = turned_plan(hall, plan)
            found += 1
            routes, passings = loose_passings(hall, plan)
            self.assertEqual(passing_paper(routes, passings)[0], "live")
            comings = {}
            for robot, row in enumerate(plan):
                visits = [tick for tick in range(len(row)) if tick == 0 or row[tick] != row[tick - 1]]
                self.assertEqual(routes[robot], tuple(row[tick] for tick in visits))
                for number, tick in enumerate(visits):
                    comings.setdefault(row[tick], []).append((tick, (robot, number)))
            self.assertEqual(passings, tuple((cell, tuple(visit for _, visit in sorted(comings[cell])))
                                             for cell in sorted(comings)))
        self.assertGreater(found, 300)

    def test_plans_with_a_fault(self):
        self.told(Refused, 0, loose_passings, ROW, ((0, 1), (1, 0)))
        self.told(Refused, 1, loose_passings, ROW, ((0, 1), (1, 1)))


class UnnamedTest(PromiseCase):
    def test_starts_that_are_goals(self):
        self.tells(("plan", ((0,), (2,)), ()), unnamed_paper, ROW, ((0, 2), (2, 0)))
        self.tells(("moves", (), moves_paper(ROW, ((0, 2), (2, 0)))[2]), moves_paper, ROW, ((0, 2), (2, 0)))
        for gates, expected in (((), True), ([], False), (((0, 0),), False), (None, False)):
            self.holds_just_if(expected, unnamed_holds, ROW, ((0, 2), (2, 0)), ("plan", ((0,), (2,)), gates))

    def test_more_starts_than_goals_in_a_lot(self):
        hall = free_hall(4, [(0, 1), (1, 0), (2, 3), (3, 2)])
        self.tells(("shut", (0, 1)), unnamed_paper, hall, ((0, 1, 2), (3, 2, 0)))
        self.tells(("shut", (0, 1)), moves_paper, hall, ((0, 1, 2), (3, 2, 0)))
        self.assertEqual(unnamed_paper(hall, ((0, 2), (3, 1)))[0], "plan")
        for lot, expected in (((0, 1), True), ((0, 1, 2, 3), False), ((2, 3), False), ((0,), False), ((), False)):
            self.holds_just_if(expected, unnamed_holds, hall, ((0, 1, 2), (3, 2, 0)), ("shut", lot))
            self.holds_just_if(expected, moves_hold, hall, ((0, 1, 2), (3, 2, 0)), ("shut", lot))

    def test_a_train(self):
        paper = unnamed_paper(ROW, ((0, 1), (1, 2)))
        self.assertEqual(len(paper[1][0]), 2)
        self.assertEqual(moves_paper(ROW, ((0, 1), (1, 2)))[1], ((1, 2), (0, 1)))

    def test_tasks_by_chance(self):
        kinds = {}
        for hall, task in random_tasks(4, 700, 6):
            paper, moved = unnamed_paper(hall, task), moves_paper(hall, task)
            kinds[paper[0]] = kinds.get(paper[0], 0) + 1
            self.assertTrue(is_tupled(paper) and is_unnamed(hall, task, paper), (hall.ways, task, paper))
            self.assertTrue(is_tupled(moved) and is_moves(hall, task, moved), (hall.ways, task, moved))
            self.holds_just_if(True, unnamed_holds, hall, task, paper)
            self.holds_just_if(True, moves_hold, hall, task, moved)
            self.assertEqual(paper[0] == "plan", can_all_come(hall, task))
            self.assertEqual(moved[0] == "moves", paper[0] == "plan")
            if paper[0] == "plan":
                ticks, many = len(paper[1][0]) - 1, len(moved[1])
                self.assertEqual(ticks, fewest_ticks(hall, task))
                self.assertEqual(many, fewest_moves(hall, task))
                self.assertLessEqual(ticks, many)
                table = way_table(hall, task[0], task[1])
                sums = [[row[job] for row, job in zip(table, jobs)] for jobs in itertools.permutations(range(len(table)))]
                self.assertEqual(many, min(sum(row) for row in sums if None not in row))
                self.assertEqual(len(most_rows(hall, task, ticks)[0]), len(task[0]))
        self.assertTrue(kinds["plan"] > 50 and kinds["shut"] > 30, kinds)

    def test_tasks_of_six(self):
        hall = read_drawing("....\n....\n....")
        task = ((0, 1, 2, 3, 4, 5), (11, 10, 9, 8, 7, 6))
        self.assertTrue(is_unnamed(hall, task, unnamed_paper(hall, task)))
        self.assertTrue(is_moves(hall, task, moves_paper(hall, task)))

    def test_a_way_that_is_blocked_by_who_has_come(self):
        # Robot 0 has to go through the goal of robot 1, who is there: so that one goes on.
        hall = read_drawing("....")
        for task in (((0, 1), (1, 3)), ((0, 2), (2, 3)), ((1, 0), (3, 1)), ((0, 1, 2), (3, 1, 2))):
            self.assertTrue(is_moves(hall, task, moves_paper(hall, task)))

    def test_papers_changed_a_little(self):
        for hall, task in random_tasks(5, 150, 4, 3):
            for value in changed_a_little(unnamed_paper(hall, task)):
                self.holds_just_if(is_unnamed(hall, task, value), unnamed_holds, hall, task, value)
            for value in changed_a_little(moves_paper(hall, task)):
                self.holds_just_if(is_moves(hall, task, value), moves_hold, hall, task, value)

    def test_all_gates_and_heights(self):
        hall, task = read_drawing("..."), ((0, 1), (1, 2))
        plan = ((0, 1), (1, 2))
        for many in range(3):
            for gates in itertools.combinations([(0, cell) for cell in range(3)] + [(1, 0)], many):
                value = ("plan", plan, gates)
                self.holds_just_if(is_unnamed(hall, task, value), unnamed_holds, hall, task, value)
        for heights in itertools.product(range(4), repeat=3):
            value = ("moves", ((1, 2), (0, 1)), heights)
            self.holds_just_if(is_moves(hall, task, value), moves_hold, hall, task, value)
        # A slower plan, and more moves, are not shown.
        self.holds_just_if(False, unnamed_holds, hall, task, ("plan", ((0, 0, 1), (1, 2, 2)), ((0, 1),)))
        self.holds_just_if(False, moves_hold, hall, task, ("moves", ((1, 2), (1, 1), (1, 2), (0, 1)), (2, 1, 0)))

    def test_odd_papers(self):
        for value in odd_values():
            for item in (value, ("shut", value), ("plan", value, ()), ("plan", ((0, 1), (1, 2)), value),
                         ("moves", value, (2, 1, 0)), ("moves", ((1, 2), (0, 1)), value), ("moves", (value,), (2, 1, 0))):
                for call in (unnamed_holds, moves_hold):
                    self.holds_just_if(False, call, ROW, ((0, 1), (1, 2)), item)

    def test_wrong_ones(self):
        for call, more in ((unnamed_paper, ()), (moves_paper, ()), (unnamed_holds, (None,)), (moves_hold, (None,))):
            self.told(InvalidHall, -1, call, None, None, *more)
            self.told(InvalidTask, -1, call, ROW, ((0,), (1, 2)), *more)
            self.told(InvalidTask, 1, call, ROW, ((0, 0), (1, 2)), *more)


if __name__ == "__main__":
    unittest.main()
