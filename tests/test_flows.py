"""[38]: rows of robots without names, and gates."""

import itertools
import random
import unittest

from nobodymeets.errors import InvalidHall, InvalidSize, InvalidTask
from nobodymeets.flows import most_rows, rows_hold
from nobodymeets.halls import Hall, read_drawing
from tests.hall_worlds import random_hall
from tests.helpers import (PromiseCase, changed_a_little, is_below, is_rising, is_tupled, listed, no_integers,
                           odd_values)
from tests.test_plans import random_task

ROW = read_drawing("...")
TASK = ((0, 1), (1, 2))


def all_rows(hall, task, ticks):
    """All rows of so many ticks from a start to a goal."""
    rows = [(start,) for start in task[0]]
    for _ in range(ticks):
        rows = [row + (cell,) for row in rows for cell in (row[-1],) + hall.followers[row[-1]]]
    return [row for row in rows if row[-1] in task[1]]


def are_apart(one, other):
    return all(a != b for a, b in zip(one, other))


def most(rows):
    """As many rows as can be chosen, no two in one cell at a tick."""
    if not rows:
        return 0
    first, rest = rows[0], rows[1:]
    with_first = 1 + most([row for row in rest if are_apart(first, row)])
    others = [row for row in rest if not are_apart(first, row)]
    return with_first if not others else max(with_first, most(rest))


def layers(hall, task, ticks, gates):
    """Whether a row of so many ticks goes through no gate."""
    cells = {start for start in task[0] if (0, start) not in gates}
    for tick in range(1, ticks + 1):
        cells = {after for cell in cells for after in (cell,) + hall.followers[cell] if (tick, after) not in gates}
    return any(goal in cells for goal in task[1])


def is_paper(hall, task, ticks, value):
    """[38]: straight from the document."""
    if not isinstance(value, tuple) or len(value) != 2 or not all(isinstance(part, tuple) for part in value):
        return False
    rows, gates = value
    for row in rows:
        if not isinstance(row, tuple) or len(row) != ticks + 1 or not all(is_below(cell, hall.cells) for cell in row):
            return False
        if row[0] not in task[0] or row[-1] not in task[1]:
            return False
        if not all(one == other or (one, other) in hall.ways for one, other in zip(row, row[1:])):
            return False
    if not all(are_apart(one, other) for one, other in itertools.combinations(rows, 2)):
        return False
    for gate in gates:
        if not isinstance(gate, tuple) or len(gate) != 2 or not is_below(gate[0], ticks + 1):
            return False
        if not is_below(gate[1], hall.cells):
            return False
    return is_rising(gates) and len(gates) == len(rows) and not layers(hall, task, ticks, gates)


class FlowTest(PromiseCase):
    def check(self, hall, task, ticks):
        paper = most_rows(hall, task, ticks)
        self.assertTrue(is_tupled(paper) and is_paper(hall, task, ticks, paper), (hall.ways, task, ticks, paper))
        self.holds_just_if(True, rows_hold, hall, task, ticks, paper)
        return paper

    def test_no_ticks(self):
        self.tells((((1,),), ((0, 1),)), most_rows, ROW, TASK, 0)
        self.tells(((), ()), most_rows, ROW, ((0,), (2,)), 0)
        self.tells((((0,), (2,)), ((0, 0), (0, 2))), most_rows, ROW, ((0, 2), (2, 0)), 0)

    def test_rows_and_ticks(self):
        self.assertEqual(len(self.check(ROW, TASK, 1)[0]), 2)
        self.assertEqual(self.check(ROW, TASK, 1)[0], ((0, 1), (1, 2)))
        self.tells(((), ()), most_rows, ROW, ((0,), (2,)), 1)
        self.assertEqual(self.check(ROW, ((0,), (2,)), 2)[0], ((0, 1, 2),))

    def test_rings_are_let(self):
        pair = read_drawing("..")
        rows, _ = self.check(pair, ((0, 1), (1, 0)), 1)
        self.assertEqual(len(rows), 2)
        ring = Hall(("free",) * 3, [(0, 1), (1, 2), (2, 0)])
        self.assertEqual(len(self.check(ring, ((0, 1, 2), (1, 2, 0)), 1)[0]), 3)

    def test_more_rows_than_go_through_a_gate(self):
        # All go through the middle, one at a tick.
        hall = Hall(("free",) * 7, [(0, 3), (1, 3), (2, 3), (3, 4), (3, 5), (3, 6)])
        task = ((0, 1, 2), (4, 5, 6))
        for ticks, many in ((0, 0), (1, 0), (2, 1), (3, 2), (4, 3), (9, 3)):
            rows, gates = self.check(hall, task, ticks)
            self.assertEqual((len(rows), len(gates)), (many, many))
        self.assertEqual(self.check(hall, task, 2)[1], ((1, 3),))

    def test_a_row_is_led_otherwise_for_another_one(self):
        # The row first put in, 0-2-5, must be left: 0 goes by 3, as 1 can go by 2 alone.
        hall = Hall(("free",) * 6, [(0, 2), (0, 3), (1, 2), (2, 4), (2, 5), (3, 5)])
        rows, _ = self.check(hall, ((0, 1), (4, 5)), 2)
        self.assertEqual(len(rows), 2)

    def test_halls_by_chance(self):
        chance = random.Random(1)
        for _ in range(500):
            hall = random_hall(chance, 5)
            task = random_task(chance, hall, 4)
            ticks = chance.randint(0, 3)
            rows = all_rows(hall, task, ticks)
            paper = self.check(hall, task, ticks)
            if len(rows) <= 60:
                self.assertEqual(len(paper[0]), most(rows))

    def test_larger_halls(self):
        chance = random.Random(2)
        for _ in range(60):
            hall = random_hall(chance, 9, least=7)
            task = random_task(chance, hall, 6)
            for ticks in (0, 4, 6):
                self.check(hall, task, ticks)
        self.assertEqual(len(self.check(read_drawing("..."), ((0, 1), (1, 2)), 40)[0]), 2)

    def test_as_many_gates_as_rows_always(self):
        chance = random.Random(3)
        for _ in range(60):
            hall = random_hall(chance, 3)
            task = random_task(chance, hall, 2)
            ticks = chance.randint(0, 1)
            places = list(itertools.product(range(ticks + 1), range(hall.cells)))
            bars = [gates for many in range(3) for gates in itertools.combinations(places, many)
                    if not layers(hall, task, ticks, gates)]
            self.assertEqual(len(bars[0]), len(most_rows(hall, task, ticks)[0]))
            rows = all_rows(hall, task, ticks)
            for many in range(3):
                for chosen in itertools.combinations(rows, many):
                    for gates in bars + [((0, 0),), ((0, 0), (1, 0))]:
                        value = (chosen, gates)
                        self.holds_just_if(is_paper(hall, task, ticks, value), rows_hold, hall, task, ticks, value)

    def test_papers_changed_a_little(self):
        chance = random.Random(4)
        worlds = [(ROW, TASK, 1), (ROW, TASK, 3), (read_drawing(".."), ((0, 1), (1, 0)), 0)]
        for _ in range(60):
            hall = random_hall(chance, 5)
            worlds.append((hall, random_task(chance, hall, 3), chance.randint(0, 3)))
        for hall, task, ticks in worlds:
            for value in changed_a_little(most_rows(hall, task, ticks)):
                self.holds_just_if(is_paper(hall, task, ticks, value), rows_hold, hall, task, ticks, value)

    def test_rows_in_any_order_and_any_gates(self):
        for value, expected in (((((1, 2), (0, 1)), ((0, 0), (0, 1))), True), ((((0, 1), (1, 2)), ((1, 1), (1, 2))), True),
                                ((((0, 1), (1, 2)), ((0, 0), (1, 2))), False), ((((0, 1), (1, 2)), ((0, 1), (0, 0))), False),
                                ((((0, 1), (1, 2)), ((0, 0), (0, 1), (0, 2))), False), ((((1, 1),), ((0, 1),)), False),
                                ((((0, 1), (1, 1)), ((0, 0), (0, 1))), False), ((((0, 1), (0, 1)), ((0, 0), (0, 1))), False),
                                (([(0, 1), (1, 2)], ((0, 0), (0, 1))), False), ((((0, 1), (1, 2)), ((2, 0), (2, 1))), False),
                                ((((0, 1, 1), (1, 2, 2)), ((0, 0), (0, 1))), False), (((), ()), False)):
            self.assertEqual(is_paper(ROW, TASK, 1, value), expected, value)
            self.holds_just_if(expected, rows_hold, ROW, TASK, 1, value)

    def test_goals_in_any_order(self):
        self.assertEqual(most_rows(ROW, ((0, 1), (2, 1)), 1)[0], ((0, 1), (1, 2)))
        self.tells(most_rows(ROW, TASK, 1), most_rows, ROW, listed(((0, 1), (2, 1))), 1)

    def test_wrong_arguments(self):
        for ticks in no_integers() + [-1, 41, 10 ** 9]:
            self.told(InvalidSize, "ticks", most_rows, ROW, TASK, ticks)
            self.told(InvalidSize, "ticks", rows_hold, ROW, TASK, ticks, None)
        for task, robot in ((None, -1), (((0,), ()), -1), (((0, 0), (1, 2)), 1), (((0, 1), (1, 3)), 1)):
            self.told(InvalidTask, robot, most_rows, ROW, task, None)
            self.told(InvalidTask, robot, rows_hold, ROW, task, None, None)
        for value in odd_values():
            if not isinstance(value, Hall):
                self.told(InvalidHall, -1, most_rows, value, None, None)
                self.told(InvalidHall, -1, rows_hold, value, None, None, None)


if __name__ == "__main__":
    unittest.main()
