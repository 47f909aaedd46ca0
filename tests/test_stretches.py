"""[10]: stretches of free ticks."""

import itertools
import random
import unittest

from nobodymeets.errors import InvalidHall, InvalidPlan, InvalidSize, InvalidStretches
from nobodymeets.halls import Hall, read_drawing
from nobodymeets.stretches import (both_free, either_free, free_but, free_of, is_free_at, late_free, room_at,
                                   shorten_ends)
from tests.hall_worlds import random_halls
from tests.helpers import (PromiseCase, changed_a_little, is_int, is_tupled, listed, no_integers, no_sequences,
                           odd_values, tupled)
from tests.test_plans import random_plan

# Ticks from here on are alike in all that is tried here.
FAR = 30


def is_number(value):
    return is_int(value) and value >= 0


def are_stretches(value):
    if not isinstance(value, (list, tuple)):
        return False
    before = -1
    for pair in value:
        if not isinstance(pair, (list, tuple)) or len(pair) != 2 or before is None or not is_number(pair[0]):
            return False
        if not (before < pair[0] if before >= 0 else True):
            return False
        if pair[1] is not None and not (is_number(pair[1]) and pair[0] < pair[1]):
            return False
        before = pair[1]
    return True


def ticks_of(stretches):
    """The ticks up to FAR, and FAR itself for all from it on."""
    return {tick for tick in range(FAR + 1) for begin, end in stretches if begin <= tick and (end is None or tick < end)}


def stretches_of(ticks):
    """The stretches of a set of ticks up to FAR."""
    found = []
    for tick in range(FAR + 1):
        if tick in ticks and tick - 1 not in ticks:
            found.append([tick, None])
        if tick not in ticks and tick - 1 in ticks:
            found[-1][1] = tick
    return tupled(found)


def random_stretches(chance):
    ticks = {tick for tick in range(12) if chance.random() < chance.choice((0.3, 0.6, 0.9))}
    if chance.random() < 0.5:
        ticks |= set(range(chance.randint(8, 14), FAR + 1))
    return stretches_of(ticks)


WRONG = [((0, 0),), ((2, 1),), ((0, 2), (2, 3)), ((0, 2), (1, 3)), ((3, 4), (0, 1)), ((0, None), (3, 4)), ((0, 3), (0, 5)),
         ((0, True),), ((True, 3),), ((-1, 2),), ((0,),), ((0, 1, 2),), (0, 1), ((None, 2),), (("0", 2),), ((0, "1"),),
         ((0, 2), None), ((0, 1), (2, 2)), ((0, None), (None, 3)), "01", ("01",)]


class StretchTest(PromiseCase):
    def test_rooms(self):
        stretches = ((0, 2), (5, 6), (9, None))
        for tick, number in ((0, 0), (1, 0), (2, None), (4, None), (5, 1), (6, None), (8, None), (9, 2), (10 ** 9, 2)):
            self.tells(number, room_at, stretches, tick)
            self.tells(number, room_at, listed(stretches), tick)
            self.holds_just_if(number is not None, is_free_at, stretches, tick)
        self.tells(None, room_at, (), 0)
        self.holds_just_if(False, is_free_at, [], 7)

    def test_wrong_stretches(self):
        for value in WRONG + no_sequences():
            self.assertFalse(are_stretches(value))
            for call, more in ((room_at, (None,)), (is_free_at, (None,)), (shorten_ends, (None,))):
                self.told(InvalidStretches, -1, call, value, *more)
            for call in (both_free, either_free):
                self.told(InvalidStretches, 0, call, value, None)
                self.told(InvalidStretches, 1, call, ((0, 1),), value)
            hall = read_drawing("..")
            self.told(InvalidStretches, 1, late_free, hall, ((), value), None)
            self.told(InvalidStretches, 0, late_free, hall, (value, value), None)

    def test_stretches_changed_a_little(self):
        for value in odd_values() + list(changed_a_little(((1, 3), (5, None)))) + list(changed_a_little([[0, 2], [3, 4]])):
            if are_stretches(value):
                self.tells(tupled(value), shorten_ends, value, 0)
            else:
                self.told(InvalidStretches, -1, shorten_ends, value, 0)

    def test_wrong_numbers(self):
        for value in no_integers() + [-1]:
            self.told(InvalidSize, "tick", room_at, (), value)
            self.told(InvalidSize, "tick", is_free_at, (), value)
            self.told(InvalidSize, "late", shorten_ends, (), value)
            self.told(InvalidSize, "late", late_free, read_drawing("."), ((),), value)
            self.told(InvalidSize, "tick", free_but, [3, value], None)
            if value is not None:
                self.told(InvalidSize, "since", free_but, [3], value)
        for value in no_sequences():
            self.told(InvalidSize, "tick", free_but, value, "x")

    def test_free_but_some_ticks(self):
        self.tells(((0, None),), free_but, ())
        self.tells(((1, None),), free_but, [0])
        self.tells(((0, 3), (4, 5)), free_but, (3,), 5)
        self.tells(((0, 3), (5, None)), free_but, [4, 3, 4])
        self.tells((), free_but, (), 0)
        self.tells((), free_but, (0, 2, 1), 3)
        self.tells(((0, 7),), free_but, [9, 7, 8], 7)
        self.tells(((0, 7), (9, 20)), free_but, (30, 8, 7, 20, 25), 20)
        self.tells(((0, 10 ** 9), (10 ** 9 + 1, None)), free_but, [10 ** 9])
        self.tells(((0, None),), free_but, ticks=[], since=None)
        chance = random.Random(1)
        for _ in range(500):
            ticks = [chance.randrange(12) for _ in range(chance.randint(0, 8))]
            since = chance.choice((None, chance.randrange(15)))
            free = {tick for tick in range(FAR + 1) if tick not in ticks and (since is None or tick < since)}
            self.tells(stretches_of(free), free_but, ticks, since)

    def test_both_and_either(self):
        self.tells((), both_free, (), ((0, None),))
        self.tells(((0, None),), either_free, (), [[0, None]])
        self.tells((), either_free, (), ())
        self.tells(((0, 8),), either_free, ((0, 3), (5, 8)), ((3, 5),))
        self.tells(((0, None),), either_free, ((0, 3),), ((2, None),))
        self.tells(((2, 3),), both_free, ((0, 3),), ((2, None),))
        self.tells(((5, None),), both_free, ((0, 3), (4, None)), ((5, None),))
        self.tells(((10 ** 9, None),), both_free, ((10 ** 9, None),), ((0, None),))
        self.tells(((0, 1), (10 ** 9, None)), either_free, ((10 ** 9, None),), ((0, 1),))
        chance = random.Random(2)
        for _ in range(800):
            one, other = random_stretches(chance), random_stretches(chance)
            self.tells(stretches_of(ticks_of(one) & ticks_of(other)), both_free, one, other)
            self.tells(stretches_of(ticks_of(one) | ticks_of(other)), either_free, one, listed(other))

    def test_unlike_stretches_have_unlike_ticks(self):
        chance = random.Random(3)
        for _ in range(200):
            one = random_stretches(chance)
            self.assertEqual(stretches_of(ticks_of(one)), one)
            for tick in range(FAR):
                self.assertEqual(is_free_at(one, tick), tick in ticks_of(one))

    def test_shorter_ends(self):
        self.tells(((0, 1), (9, None)), shorten_ends, ((0, 3), (5, 7), (9, None)), 2)
        self.tells(((0, 3), (5, 7), (9, None)), shorten_ends, [[0, 3], [5, 7], [9, None]], 0)
        self.tells(((9, None),), shorten_ends, ((0, 3), (5, 7), (9, None)), 3)
        self.tells((), shorten_ends, ((0, 3), (5, 7)), 10 ** 9)
        self.tells((), shorten_ends, (), 5)
        chance = random.Random(4)
        for _ in range(300):
            one, late = random_stretches(chance), chance.randint(0, 6)
            # A tick stays just if so many behind it are of the stretch, too.
            left = {tick for tick in ticks_of(one) if all(min(tick + more, FAR) in ticks_of(one) for more in range(late + 1))}
            self.tells(stretches_of(left), shorten_ends, one, late)

    def test_late_halls(self):
        hall = read_drawing(".P.")
        free = [[(0, 3)], (), ((1, 2), (4, None))]
        self.tells((((0, 2),), (), ((4, None),)), late_free, hall, free, 1)
        self.tells(tupled(free), late_free, hall, free, 0)
        for value in no_sequences() + [(), ((),), ((), (), (), ())]:
            self.told(InvalidStretches, -1, late_free, hall, value, None)
        self.told(InvalidStretches, 1, late_free, hall, ((), None, None), None)
        self.told(InvalidStretches, 2, late_free, hall, ((), ((0, 1),), ((0, 1), (1, 2))), None)
        for value in odd_values():
            if not isinstance(value, Hall):
                self.told(InvalidHall, -1, late_free, value, None, None)
                self.told(InvalidHall, -1, free_of, value, None)


class PlanTest(PromiseCase):
    def test_a_plan_of_one_tick(self):
        self.tells(((), ((0, None),), ()), free_of, read_drawing("..."), ((0,), (2,)))
        self.tells((((0, None),), ()), free_of, read_drawing(".."), ((1,),))

    def test_robots_stay_where_they_end(self):
        hall = read_drawing("....")
        self.tells((((2, None),), ((3, None),), ((0, 1),), ((0, None),)), free_of, hall, [[0, 1, 2]])
        self.tells((((2, None),), (), ((0, None),), ((0, None),)), free_of, hall, [[0, 1, 1]])
        self.tells((((3, None),), ((0, 1), (4, None)), ((0, 2),), ((0, None),)), free_of, hall, ((0, 0, 1, 2, 2, 2),))
        self.tells((((0, 2),), (), ((3, None),), ((0, None),)), free_of, hall, ((2, 2, 1, 0), (1, 1, 1, 1)))

    def test_wrong_plans(self):
        hall = read_drawing("...")
        for plan, robot in ((None, -1), ((), -1), (((0, 2),), 0), (((0, 1), (2,)), 1), (((0,), (3,)), 1)):
            self.told(InvalidPlan, robot, free_of, hall, plan)

    def test_plans_by_chance(self):
        chance = random.Random(5)
        for hall in random_halls(chance, 250, 6):
            plan = random_plan(chance, hall, chance.randint(1, 4), chance.randint(0, 7))
            free = free_of(hall, plan)
            self.assertTrue(is_tupled(free))
            for cell, tick in itertools.product(range(hall.cells), range(12)):
                near = [at for at in (tick - 1, tick, tick + 1) if at >= 0]
                there = any(row[min(at, len(row) - 1)] == cell for row in plan for at in near)
                self.holds_just_if(not there, is_free_at, free[cell], tick)
            for cell in range(hall.cells):
                self.assertTrue(are_stretches(free[cell]))
                self.assertEqual(is_free_at(free[cell], 10 ** 9), cell not in [row[-1] for row in plan])


if __name__ == "__main__":
    unittest.main()
