"""[41]: loose plans of so many ticks with the fewest moves."""

import heapq
import itertools
import random
import unittest

from nobodymeets.errors import InvalidHall, InvalidSize, InvalidTask
from nobodymeets.halls import read_drawing
from nobodymeets.intime import within_holds, within_paper
from nobodymeets.unnamed import moves_paper, unnamed_paper
from tests.hall_worlds import free_hall
from tests.helpers import PromiseCase, changed_a_little, is_int, is_tupled, no_integers, odd_values
from tests.test_unnamed import are_gates, is_loose, moves_in, random_tasks, rings

ROW = read_drawing("...")
TASK = ((0, 1), (1, 2))


def are_heights(hall, ticks, value):
    if not isinstance(value, tuple) or len(value) != ticks + 1:
        return False
    return all(isinstance(row, tuple) and len(row) == hall.cells and all(is_int(h) and h >= 0 for h in row)
               for row in value)


def is_paper(hall, task, ticks, value):
    """[41]: straight from the document."""
    if not isinstance(value, tuple) or not value or not isinstance(value[0], str):
        return False
    if value[0] == "gates":
        return len(value) == 2 and are_gates(hall, task, ticks, value[1])
    if value[0] != "within" or len(value) != 4 or not is_loose(hall, task, value[1]):
        return False
    _, plan, ins, outs = value
    if len(plan[0]) != ticks + 1 or not are_heights(hall, ticks, ins) or not are_heights(hall, ticks, outs):
        return False
    for tick in range(ticks):
        for cell in range(hall.cells):
            if outs[tick][cell] > ins[tick + 1][cell]:
                return False
            if any(outs[tick][cell] - ins[tick + 1][other] > 1 for other in hall.followers[cell]):
                return False
    falls = sum(max(0, ins[tick][cell] - outs[tick][cell]) for tick in range(ticks + 1) for cell in range(hall.cells))
    told = sum(ins[0][cell] for cell in task[0]) - sum(outs[ticks][cell] for cell in task[1]) - falls
    return told == moves_in(plan)


def fewest_moves(hall, task, ticks):
    """The fewest moves of a loose plan of so many ticks, by all standings without names; None if there is none."""
    best = {(0, frozenset(task[0])): 0}
    queue = [(0, 0, tuple(sorted(task[0])))]
    while queue:
        cost, tick, cells = heapq.heappop(queue)
        if cost > best[(tick, frozenset(cells))]:
            continue
        if tick == ticks:
            if set(cells) == set(task[1]):
                return cost
            continue
        for step in itertools.product(*[(cell,) + hall.followers[cell] for cell in cells]):
            if len(set(step)) == len(step) and not rings(tuple(zip(cells, step)), 0):
                more = cost + sum(one != other for one, other in zip(cells, step))
                after = (tick + 1, frozenset(step))
                if best.get(after, more + 1) > more:
                    best[after] = more
                    heapq.heappush(queue, (more, tick + 1, tuple(sorted(step))))
    return None


class WithinTest(PromiseCase):
    def check(self, hall, task, ticks):
        paper = within_paper(hall, task, ticks)
        self.assertTrue(is_tupled(paper) and is_paper(hall, task, ticks, paper), (hall.ways, task, ticks, paper))
        self.holds_just_if(True, within_holds, hall, task, ticks, paper)
        return paper

    def test_ticks_too_few(self):
        self.tells(("gates", ((0, 1),)), within_paper, ROW, TASK, 0)
        self.assertEqual(self.check(ROW, ((0,), (2,)), 1), ("gates", ()))
        self.assertEqual(self.check(ROW, ((0,), (2,)), 2)[0], "within")

    def test_no_ticks(self):
        paper = self.check(ROW, ((0, 2), (2, 0)), 0)
        self.assertEqual(paper[:2], ("within", ((0,), (2,))))

    def test_heights_where_nobody_comes(self):
        hall = free_hall(5, [(0, 1), (3, 4), (2, 3)])
        paper = self.check(hall, ((0,), (1,)), 3)
        self.assertEqual((paper[0], moves_in(paper[1])), ("within", 1))
        self.assertTrue(all(len(row) == 5 for row in paper[2] + paper[3]))

    def test_in_a_hurry_more_moves_are_needed(self):
        # All may go through cell 3, one by one; in three ticks the third one has to go round by 7 and 8.
        hall = free_hall(9, [(0, 3), (1, 3), (2, 3), (3, 4), (3, 5), (3, 6), (2, 7), (7, 8), (8, 6)])
        task = ((0, 1, 2), (4, 5, 6))
        self.assertEqual(self.check(hall, task, 2)[0], "gates")
        self.assertEqual([moves_in(self.check(hall, task, ticks)[1]) for ticks in (3, 4, 5)], [7, 6, 6])

    def test_tasks_by_chance(self):
        kinds = {}
        for hall, task in random_tasks(1, 350, 5, 4):
            for ticks in range(5):
                paper = self.check(hall, task, ticks)
                least = fewest_moves(hall, task, ticks)
                kinds[paper[0]] = kinds.get(paper[0], 0) + 1
                self.assertEqual(paper[0] == "within", least is not None)
                if least is not None:
                    self.assertEqual(moves_in(paper[1]), least)
        self.assertTrue(kinds["within"] > 100 and kinds["gates"] > 100, kinds)

    def test_more_ticks_never_need_more_moves(self):
        for hall, task in random_tasks(2, 300, 6, 4):
            paper, moves = unnamed_paper(hall, task), moves_paper(hall, task)
            if paper[0] == "plan":
                least = len(paper[1][0]) - 1
                self.assertEqual(self.check(hall, task, max(least - 1, 0))[0], "within" if least == 0 else "gates")
                counts = [moves_in(self.check(hall, task, ticks)[1]) for ticks in range(least, len(moves[1]) + 1)]
                self.assertEqual(counts, sorted(counts, reverse=True))
                # With as many ticks as there are fewest moves, no more than these.
                self.assertEqual(counts[-1], len(moves[1]))

    def test_forty_ticks(self):
        self.check(ROW, TASK, 40)
        self.check(read_drawing("...\n..."), ((0, 1, 2), (5, 4, 3)), 40)

    def test_papers_changed_a_little(self):
        for hall, task in random_tasks(3, 60, 4, 3):
            for ticks in (0, 1, 2):
                for value in changed_a_little(within_paper(hall, task, ticks)):
                    self.holds_just_if(is_paper(hall, task, ticks, value), within_holds, hall, task, ticks, value)

    def test_all_heights(self):
        pair, task = read_drawing(".."), ((0,), (1,))
        found = 0
        for numbers in itertools.product(range(3), repeat=8):
            ins, outs = (numbers[:2], numbers[2:4]), (numbers[4:6], numbers[6:])
            value = ("within", ((0, 1),), ins, outs)
            found += is_paper(pair, task, 1, value)
            self.holds_just_if(is_paper(pair, task, 1, value), within_holds, pair, task, 1, value)
        self.assertGreater(found, 10)

    def test_other_papers(self):
        paper = within_paper(ROW, TASK, 2)
        self.holds_just_if(False, within_holds, ROW, TASK, 1, paper)
        self.holds_just_if(False, within_holds, ROW, TASK, 3, paper)
        # Another order of the goals, and more moves than heights tell.
        self.holds_just_if(True, within_holds, ROW, ((0, 1), (2, 1)), 2, paper)
        self.holds_just_if(False, within_holds, ROW, TASK, 2, ("within", ((0, 0, 1), (1, 2, 1)),) + paper[2:])
        self.holds_just_if(False, within_holds, ROW, TASK, 3, ("gates", ((0, 1),)))
        self.holds_just_if(False, within_holds, ROW, TASK, 0, ("gates", ((0, 0), (0, 1))))
        self.holds_just_if(True, within_holds, ROW, TASK, 0, ("gates", ((0, 1),)))

    def test_odd_papers(self):
        paper = within_paper(ROW, TASK, 2)
        for value in odd_values():
            for item in (value, ("gates", value), ("within", value) + paper[2:], paper[:2] + (value, paper[3]),
                         paper[:3] + (value,), paper[:3] + ((value,) * 3,)):
                self.holds_just_if(False, within_holds, ROW, TASK, 2, item)

    def test_wrong_ones(self):
        for call, more in ((within_paper, ()), (within_holds, (None,))):
            self.told(InvalidHall, -1, call, None, None, None, *more)
            self.told(InvalidTask, 1, call, ROW, ((0, 0), (1, 2)), None, *more)
            for ticks in no_integers() + [-1, 41]:
                self.told(InvalidSize, "ticks", call, ROW, TASK, ticks, *more)


if __name__ == "__main__":
    unittest.main()
