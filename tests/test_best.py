"""[29], [30]: best plans, and the trees of bars that show them."""

import heapq
import itertools
import random
import unittest

from nobodymeets.best import best_holds, best_plan, lone_coming
from nobodymeets.errors import InvalidCell, InvalidHall, InvalidIndex, InvalidSize, InvalidTask
from nobodymeets.halls import read_drawing
from nobodymeets.plans import plan_costs, plan_holds
from tests.hall_worlds import free_hall, random_hall
from tests.helpers import PromiseCase, changed_a_little, is_below, is_int, is_tupled, listed, no_integers, odd_values
from tests.test_plans import random_task

ROW = read_drawing("...")
CROSS = read_drawing("#.#\n...\n#.#")


def lone(hall, start, goal, barred):
    """[29]: the least coming of a robot alone; behind the last bar all cells come within as many ticks as there are."""
    bars = {(cell, tick) for cell, tick in barred}
    far = max([tick for _, tick in bars], default=0) + hall.cells + 2
    stays = max([tick + 1 for cell, tick in bars if cell == goal], default=0)
    cells = {start}
    for tick in range(far + 1):
        if goal in cells and tick >= stays:
            return tick
        cells = {after for cell in cells for after in (cell,) + hall.followers[cell]
                 if (cell, tick) not in bars and (after, tick) not in bars}
    return None


def least_sum(hall, task):
    """The least sum of comings of a plan without meeting, through all standings in which some stay for good; None."""
    starts, goals = task
    many = len(starts)
    best, queue = {}, []
    for stay in itertools.product((False, True), repeat=many):
        if all(not here or start == goal for here, start, goal in zip(stay, starts, goals)):
            best[(starts, stay)] = 0
            queue.append((0, starts, stay))
    while queue:
        cost, cells, stay = heapq.heappop(queue)
        if best[(cells, stay)] < cost:
            continue
        if all(stay):
            return cost
        steps = []
        for cell, here, goal in zip(cells, stay, goals):
            steps.append([(cell, True)] if here else [(other, there) for other in (cell,) + hall.followers[cell]
                                                      for there in ((False, True) if other == goal else (False,))])
        more = cost + many - sum(stay)
        for step in itertools.product(*steps):
            held = [{cell, other} for cell, (other, _) in zip(cells, step)]
            if any(held[one] & held[other] for one, other in itertools.combinations(range(many), 2)):
                continue
            after = (tuple(cell for cell, _ in step), tuple(there for _, there in step))
            if best.get(after, more + 1) > more:
                best[after] = more
                heapq.heappush(queue, (more,) + after)
    return None


def is_tree(hall, task, least, value, bars=()):
    """[29], [30]: whether a value is a tree in each leaf of which lone comings are at least a sum together."""
    many = len(task[0])
    if not isinstance(value, tuple) or not value or not isinstance(value[0], str):
        return False
    if len(value) == 1 and value[0] == "leaf":
        comings = [lone(hall, task[0][robot], task[1][robot], [bar[1:] for bar in bars if bar[0] == robot])
                   for robot in range(many)]
        return None in comings or sum(comings) >= least
    if len(value) != 7 or value[0] != "split":
        return False
    _, one, other, cell, tick, left, right = value
    if not is_below(one, many) or not is_below(other, many) or one == other or not is_below(cell, hall.cells):
        return False
    if not is_below(tick, 1001):
        return False
    return (is_tree(hall, task, least, left, bars + ((one, cell, tick),))
            and is_tree(hall, task, least, right, bars + ((other, cell, tick),)))


def is_paper(hall, task, value):
    if not isinstance(value, tuple) or not value or not isinstance(value[0], str):
        return False
    if value[0] == "none" and len(value) == 2:
        return is_below(value[1], len(task[0])) and lone(hall, task[0][value[1]], task[1][value[1]], ()) is None
    if len(value) != 3:
        return False
    if value[0] == "bound":
        return is_int(value[1]) and value[1] >= 0 and is_tree(hall, task, value[1], value[2])
    return (value[0] == "best" and plan_holds(hall, task, value[1])
            and is_tree(hall, task, plan_costs(value[1])[0], value[2]))


def places(tree):
    """How many places a tree has."""
    count, left = 0, [tree]
    while left:
        some = left.pop()
        count += 1
        left.extend(some[5:])
    return count


class LoneTest(PromiseCase):
    def test_no_bars(self):
        self.tells(0, lone_coming, ROW, 1, 1, ())
        self.tells(2, lone_coming, ROW, 0, 2, [])
        self.tells(None, lone_coming, read_drawing(".#."), 0, 1, ())
        self.tells(None, lone_coming, read_drawing("><"), 0, 1, ((0, 0),))

    def test_bars_at_tick_0_and_at_the_goal(self):
        # Who starts in a cell that is barred in tick 0 has no way at all.
        self.tells(None, lone_coming, ROW, 0, 2, ((0, 0),))
        self.tells(3, lone_coming, ROW, 0, 2, ((1, 0),))
        # It comes at tick 2 by tick 1, so a bar there or later keeps it from the goal.
        self.tells(3, lone_coming, ROW, 0, 2, ((2, 1),))
        self.tells(2, lone_coming, ROW, 0, 2, ((2, 0),))
        self.tells(7, lone_coming, ROW, 0, 2, [[2, 5]])
        self.tells(1002, lone_coming, ROW, 0, 2, ((2, 1000),))
        # At its goal at first it has to leave, and to come again.
        self.tells(5, lone_coming, ROW, 1, 1, ((1, 3),))
        self.tells(None, lone_coming, ROW, 1, 1, ((1, 0),))
        self.tells(None, lone_coming, read_drawing(".#."), 0, 0, ((0, 4),))
        self.tells(None, lone_coming, ROW, 0, 2, ((0, 4), (1, 4), (2, 4)))

    def test_bars_by_chance(self):
        chance = random.Random(1)
        seen = set()
        for _ in range(1500):
            hall = random_hall(chance, 5)
            start, goal = chance.randrange(hall.cells), chance.randrange(hall.cells)
            barred = [(chance.randrange(hall.cells), chance.randint(0, 6)) for _ in range(chance.randint(0, 8))]
            expected = lone(hall, start, goal, barred)
            seen.add(expected)
            self.tells(expected, lone_coming, hall, start, goal, barred)
            self.tells(expected, lone_coming, hall, start, goal, listed(barred + barred))
        self.assertGreater(len(seen), 7)

    def test_wrong_ones(self):
        for value in odd_values():
            if not isinstance(value, (list, tuple)):
                self.told(InvalidIndex, -1, lone_coming, ROW, 0, 2, value)
            if value != ((0, 0),) and value != (0, 0):
                self.told(InvalidIndex, 1, lone_coming, ROW, 0, 2, ((1, 3), value, None))
        for pair in ((3, 0), (0, -1), (0, 1001), (True, 0), (0, True), (0,), (0, 0, 0), (None, 0), (0, None), "00"):
            self.told(InvalidIndex, 2, lone_coming, ROW, 0, 2, ((1, 3), (1, 3), pair))
        self.told(InvalidHall, -1, lone_coming, None, None, None, None)
        self.told(InvalidCell, 0, lone_coming, ROW, 3, 3, None)
        self.told(InvalidCell, 1, lone_coming, ROW, 2, -1, None)


class BestTest(PromiseCase):
    def check(self, hall, task, nodes=2000):
        paper = best_plan(hall, task, nodes)
        self.assertTrue(is_paper(hall, task, paper), (hall.ways, task, paper))
        self.holds_just_if(True, best_holds, hall, task, paper)
        if paper[0] != "none":
            self.assertLessEqual(places(paper[2]), nodes)
            comings = [lone(hall, start, goal, ()) for start, goal in zip(*task)]
            if paper[0] == "bound":
                self.assertGreaterEqual(paper[1], sum(comings))
            else:
                self.assertTrue(is_tupled(paper[1]))
        return paper

    def test_nobody_in_the_way(self):
        self.tells(("best", ((0, 1), (2, 2)), ("leaf",)), best_plan, ROW, ((0, 2), (1, 2)), 1)
        self.tells(("best", ((1,),), ("leaf",)), best_plan, ROW, [[1], [1]], 1)

    def test_one_waits_for_the_other(self):
        task = ((1, 0), (4, 3))
        paper = self.check(CROSS, task)
        self.assertEqual((paper[0], plan_costs(paper[1])[0]), ("best", least_sum(CROSS, task)))
        self.assertEqual(plan_costs(paper[1])[0], 6)
        self.assertNotEqual(paper[2], ("leaf",))

    def test_too_few_nodes(self):
        task = ((1, 0), (4, 3))
        for nodes in (1, 2):
            self.tells(("bound", 4, ("leaf",)), best_plan, CROSS, task, nodes)
        least = places(self.check(CROSS, task)[2])
        self.assertEqual(self.check(CROSS, task, least)[0], "best")
        paper = self.check(CROSS, task, least - 1)
        self.assertEqual(paper[0], "bound")
        self.assertTrue(4 <= paper[1] <= 6)

    def test_a_robot_without_a_way(self):
        hall = free_hall(4, [(0, 1), (1, 0), (2, 3)])
        self.tells(("none", 1), best_plan, hall, ((0, 3, 2), (1, 2, 0)), 5)
        for value, expected in ((("none", 1), True), (("none", 2), True), (("none", 0), False), (("none", 3), False),
                                (("none", True), False), (("none", -1), False), (["none", 1], False), (("none",), False),
                                (("none", 1, ()), False), (("bound", 10 ** 9, ("leaf",)), True)):
            self.holds_just_if(expected, best_holds, hall, ((0, 3, 2), (1, 2, 0)), value)

    def test_who_is_at_its_goal_makes_room(self):
        hall = read_drawing("...\n#.#")
        paper = self.check(hall, ((0, 1), (2, 1)))
        self.assertEqual((paper[0], plan_costs(paper[1])[0]), ("best", least_sum(hall, ((0, 1), (2, 1)))))

    def test_no_plan_at_all(self):
        for drawing, task in (("..", ((0, 1), (1, 0))), ("...", ((0, 2), (2, 0)))):
            hall = read_drawing(drawing)
            self.assertIsNone(least_sum(hall, task))
            self.assertEqual(self.check(hall, task, 60)[0], "bound")
        # All is barred soon where nobody can wait anywhere else.
        hall = free_hall(3, [(0, 1), (1, 2), (2, 0)])
        self.assertEqual(self.check(hall, ((0, 1, 2), (1, 2, 0)), 200)[0], "bound")

    def test_ticks_to_1000(self):
        # Both would have to pass each other in two cells: bars at later and later ticks, so long as there are such.
        hall = read_drawing("..")
        paper = best_plan(hall, ((0, 1), (1, 0)), 2000)
        self.assertEqual(paper[0], "bound")
        self.holds_just_if(True, best_holds, hall, ((0, 1), (1, 0)), paper)

    def test_tasks_by_chance(self):
        chance = random.Random(2)
        seen = set()
        for _ in range(260):
            hall = random_hall(chance, 6)
            task = random_task(chance, hall, 3)
            least = least_sum(hall, task)
            paper = self.check(hall, task, 400 if least is not None else 40)
            seen.add(paper[0])
            if paper[0] == "best":
                self.assertEqual(plan_costs(paper[1]), (least, plan_costs(paper[1])[1]))
                self.assertEqual(plan_costs(paper[1])[1], len(paper[1][0]) - 1)
            elif paper[0] == "bound":
                self.assertTrue(least is None or paper[1] <= least)
            else:
                self.assertEqual(paper[1], [lone(hall, *pair, ()) for pair in zip(*task)].index(None))
        self.assertEqual(seen, {"best", "bound", "none"})

    def test_it_is_the_sum_of_lone_comings_if_some_least_ways_meet_nobody(self):
        # The one way round is as short as the other, so nobody waits.
        hall = read_drawing("...\n.#.\n...")
        paper = self.check(hall, ((0, 7), (7, 0)))
        self.assertEqual((paper[0], plan_costs(paper[1])[0]), ("best", 8))

    def test_four_robots(self):
        hall = read_drawing("...\n...\n...")
        task = ((0, 2, 6, 8), (8, 6, 2, 0))
        paper = best_plan(hall, task, 2000)
        self.holds_just_if(True, best_holds, hall, task, paper)


class JudgeTest(PromiseCase):
    def test_papers_changed_a_little(self):
        chance = random.Random(3)
        for _ in range(40):
            hall = random_hall(chance, 5)
            task = random_task(chance, hall, 3)
            paper = best_plan(hall, task, 9)
            for value in changed_a_little(paper):
                self.holds_just_if(is_paper(hall, task, value), best_holds, hall, task, value)

    def test_any_tree(self):
        task = ((0, 2), (1, 2))
        leaf = ("leaf",)
        plan = ((0, 1), (2, 2))
        for tree, expected in ((leaf, True), (("split", 0, 1, 1, 0, leaf, leaf), True),
                               (("split", 1, 0, 1, 1000, leaf, leaf), True), (("split", 1, 0, 1, 1001, leaf, leaf), False),
                               (("split", 0, 0, 1, 0, leaf, leaf), False), (("split", 0, 2, 1, 0, leaf, leaf), False),
                               (("split", 0, 1, 3, 0, leaf, leaf), False), (("split", 0, 1, 1, 0, leaf), False),
                               (("split", 0, True, 1, 0, leaf, leaf), False), (("split", 0, 1, 1, False, leaf, leaf), False),
                               (("split", 0, 1, 1, 0, leaf, ["leaf"]), False), (("split", 0, 1, 1, 0, leaf, ()), False),
                               (("leaf", 0), False), ((), False), (("split",), False), ("leaf", False),
                               (("split", 0, 1, 1, 0, leaf, ("split", 1, 0, 2, 3, leaf, leaf)), True)):
            self.assertEqual(is_paper(ROW, task, ("best", plan, tree)), expected, tree)
            self.holds_just_if(expected, best_holds, ROW, task, ("best", plan, tree))
            self.holds_just_if(expected, best_holds, ROW, task, ("bound", 1, tree))
        # Plans may be told farther, and a greater sum isn't shown.
        self.holds_just_if(True, best_holds, ROW, task, ("best", ((0, 1, 1), (2, 2, 2)), leaf))
        self.holds_just_if(False, best_holds, ROW, task, ("best", ((0, 0, 1), (2, 2, 2)), leaf))
        self.holds_just_if(False, best_holds, ROW, task, ("bound", 2, leaf))
        self.holds_just_if(True, best_holds, ROW, task, ("bound", 0, leaf))
        for least in no_integers() + [-1]:
            self.holds_just_if(False, best_holds, ROW, task, ("bound", least, leaf))

    def test_a_bar_for_a_robot_without_any_way_left_is_more_than_all(self):
        # Who may not be where it starts never comes.
        task = ((0, 2), (1, 2))
        tree = ("split", 0, 1, 0, 0, ("leaf",), ("leaf",))
        self.holds_just_if(True, best_holds, ROW, task, ("bound", 1, tree))
        self.holds_just_if(False, best_holds, ROW, task, ("bound", 2, tree))
        tree = ("split", 0, 1, 0, 0, ("leaf",), ("split", 1, 0, 2, 0, ("leaf",), ("split", 0, 1, 1, 5, ("leaf",), ("leaf",))))
        self.assertEqual(is_paper(ROW, task, ("bound", 7, tree)), best_holds(ROW, task, ("bound", 7, tree)))

    def test_deep_trees(self):
        tree = ("leaf",)
        for tick in range(1000):
            tree = ("split", 0, 1, 1, tick, ("leaf",), tree)
        self.holds_just_if(True, best_holds, ROW, ((0, 2), (1, 2)), ("bound", 1, tree))
        self.holds_just_if(False, best_holds, ROW, ((0, 2), (1, 2)), ("bound", 2000, tree))

    def test_odd_papers(self):
        for value in odd_values():
            for item in (value, ("none", value), ("best", value, ("leaf",)), ("best", ((0, 1), (2, 2)), value),
                         ("bound", value, ("leaf",)), ("bound", 0, value)):
                self.holds_just_if(False, best_holds, ROW, ((0, 2), (1, 2)), item)

    def test_wrong_ones(self):
        task = ((0, 2), (1, 2))
        self.told(InvalidHall, -1, best_plan, None, None, None)
        self.told(InvalidTask, 1, best_plan, ROW, ((0, 0), (1, 2)), None)
        for nodes in no_integers() + [0, -1, 2001, 10 ** 9]:
            self.told(InvalidSize, "nodes", best_plan, ROW, task, nodes)
            self.told(InvalidSize, "nodes", best_plan, read_drawing(".#."), ((0,), (1,)), nodes)
        self.told(InvalidHall, -1, best_holds, None, None, None)
        self.told(InvalidTask, -1, best_holds, ROW, None, None)


if __name__ == "__main__":
    unittest.main()
