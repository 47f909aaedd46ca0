"""[57]: errands of robots that fill their charge on the way."""

import heapq
import itertools
import random
import unittest

from nobodymeets.errors import InvalidCell, InvalidHall, InvalidLot, InvalidSize, Refused
from nobodymeets.halls import read_drawing
from nobodymeets.stops import plain_ticks, stop_holds, stop_run, stop_table
from tests.hall_worlds import is_row_of_ways, random_hall, steps
from tests.helpers import (PromiseCase, changed_a_little, is_below, is_int, is_rising, is_tupled, no_integers,
                           no_sequences, odd_values, same)

ROW = read_drawing("C..P")
# Hall, full charge, gain, cell, charge: a charge of 3 does not do for there and back.
FAR = (ROW, 6, 2, 0, 1)


def chargers(hall):
    return [cell for cell, kind in enumerate(hall.kinds) if kind == "charger"]


def deeds(hall, full, gain, ends, state):
    """[57]: what can be done in a state: the state then, and the ticks for it."""
    done, cell, charge = state
    if cell in chargers(hall) and charge < full:
        yield (done, cell, min(full, charge + gain)), 1
    if done < len(ends) and ends[done] == cell:
        yield (done + 1, cell, charge), 0
    for stop in sorted(set(chargers(hall)) | set(ends)):
        many = steps(hall, cell, stop)
        if stop != cell and many is not None and many <= charge:
            yield (done, stop, charge - many), many


def is_safe(hall, state):
    found = [steps(hall, state[1], charger) for charger in chargers(hall)]
    return any(many is not None and many <= state[2] for many in found)


def table(hall, full, gain, cell, charge, ends):
    """[57]: the fewest ticks of all states that can come."""
    ticks, queue = {(0, cell, charge): 0}, [(0, (0, cell, charge))]
    while queue:
        tick, state = heapq.heappop(queue)
        if tick == ticks[state]:
            for after, more in deeds(hall, full, gain, ends, state):
                if ticks.get(after, tick + more + 1) > tick + more:
                    ticks[after] = tick + more
                    heapq.heappush(queue, (tick + more, after))
    return tuple(sorted(ticks.items()))


def is_state(hall, full, ends, value):
    if not isinstance(value, tuple) or len(value) != 3:
        return False
    return is_below(value[0], len(ends) + 1) and is_below(value[1], hall.cells) and is_below(value[2], full + 1)


def is_table(hall, full, gain, cell, charge, ends, value):
    """[57]: straight from the document."""
    if not isinstance(value, tuple) or not all(isinstance(pair, tuple) and len(pair) == 2 for pair in value):
        return False
    if not all(is_state(hall, full, ends, state) and is_int(tick) and tick >= 0 for state, tick in value):
        return False
    ticks = dict(value)
    if not is_rising([state for state, _ in value]) or ticks.get((0, cell, charge)) != 0:
        return False
    return all(after in ticks and ticks[after] <= tick + more for state, tick in value
               for after, more in deeds(hall, full, gain, ends, state))


def charged_worlds(seed, many, most=5):
    chance = random.Random(seed)
    for _ in range(many):
        hall = random_hall(chance, most, kinds=("free", "free", "park", "charger"))
        full = chance.randint(1, 7)
        yield (hall, full, chance.randint(1, 3), chance.randrange(hall.cells), chance.randint(0, full),
               tuple(chance.randrange(hall.cells) for _ in range(chance.randint(0, 3))))


class RunTest(PromiseCase):
    def follow(self, world, row):
        """Goes along a row, doing each end as soon as it is the next one, and tells the ticks it took."""
        hall, full, gain, cell, charge, ends = world
        done, ticks = 0, 0
        for at, part in enumerate(row):
            done = self.all_done(ends, done, cell)
            if part[0] == "go":
                self.assertTrue(is_row_of_ways(hall, part[1]) and part[1][0] == cell)
                self.assertEqual(len(part[1]) - 1, steps(hall, cell, part[1][-1]))
                self.assertTrue(part[1][-1] in ends or part[1][-1] in chargers(hall))
                self.assertGreater(len(part[1]), 1)
                cell, charge, ticks = part[1][-1], charge - len(part[1]) + 1, ticks + len(part[1]) - 1
                self.assertGreaterEqual(charge, 0)
            else:
                self.assertEqual(part[0], "fill")
                self.assertIn(cell, chargers(hall))
                self.assertTrue(part[1] > 0 and (at == 0 or row[at - 1][0] == "go"))
                self.assertLess(charge + gain * (part[1] - 1), full)
                charge, ticks = min(full, charge + gain * part[1]), ticks + part[1]
        done = self.all_done(ends, done, cell)
        self.assertEqual(done, len(ends))
        self.assertTrue(is_safe(hall, (done, cell, charge)))
        return ticks

    def all_done(self, ends, done, cell):
        while done < len(ends) and ends[done] == cell:
            done += 1
        return done

    def test_it_fills_for_there_and_back(self):
        # It needs 3 starts there, and 3 back from there: a charge of 6, three ticks for it.
        self.tells((6, (("fill", 3), ("go", (0, 1, 2, 3)))), stop_run, *FAR, (3,))
        self.tells(6, plain_ticks, *FAR, (3,), 6)
        self.tells(None, plain_ticks, *FAR, (3,), 5)
        self.tells(None, stop_run, ROW, 5, 2, 0, 1, (3,))
        self.tells(None, plain_ticks, ROW, 5, 2, 0, 1, (3,), 1000)
        self.tells((3, (("go", (0, 1, 2, 3)),)), stop_run, ROW, 6, 2, 0, 6, [3])

    def test_no_ends_to_be_in(self):
        self.tells((0, ()), stop_run, *FAR, ())
        self.tells((0, ()), stop_run, ROW, 6, 2, 2, 2, ())
        # No charger is in reach.
        self.tells(None, stop_run, ROW, 6, 2, 2, 1, ())
        self.tells(0, plain_ticks, *FAR, (), 0)

    def test_a_charge_of_0(self):
        self.tells((2, (("fill", 1), ("go", (0, 1)))), stop_run, ROW, 6, 2, 0, 0, (1,))
        self.tells(None, stop_run, ROW, 6, 2, 1, 0, (1,))
        self.tells((0, ()), stop_run, ROW, 6, 2, 0, 0, (0, 0, 0))

    def test_a_charger_as_the_first_end(self):
        self.tells((0, ()), stop_run, *FAR, (0,))
        self.tells((3, (("fill", 1), ("go", (0, 1)), ("go", (1, 0)))), stop_run, ROW, 6, 1, 0, 1, (0, 1, 0))

    def test_ends_that_cannot_be_come_to(self):
        hall = read_drawing("C.#P")
        self.tells(None, stop_run, hall, 6, 2, 0, 6, (2,))
        self.tells(None, plain_ticks, hall, 6, 2, 0, 6, (1, 2), 50)
        self.tells((1, (("go", (0, 1)),)), stop_run, hall, 6, 2, 0, 6, (1,))

    def test_it_stops_at_chargers_on_the_way(self):
        hall = read_drawing("C..C..C..P")
        told = stop_run(hall, 6, 3, 0, 3, (9,))
        self.assertEqual(told[0], plain_ticks(hall, 6, 3, 0, 3, (9,), 99))
        self.assertEqual(self.follow((hall, 6, 3, 0, 3, (9,)), told[1]), told[0])
        self.assertEqual(told[0], 9 + 3)

    def test_runs_by_chance(self):
        seen = set()
        for world in charged_worlds(1, 700):
            if not chargers(world[0]):
                self.told(Refused, -1, stop_run, *world)
                self.told(Refused, -1, plain_ticks, *world, 5)
                continue
            told = stop_run(*world)
            plain = plain_ticks(*world, 80)
            if told is None:
                self.assertIsNone(plain)
                continue
            self.assertTrue(is_tupled(told))
            self.assertEqual(told[0], plain)
            self.assertEqual(self.follow(world, told[1]), told[0])
            seen.add(len(told[1]))
            least = [tick for state, tick in stop_table(*world) if state[0] == len(world[5]) and is_safe(world[0], state)]
            self.assertEqual(told[0], min(least))
            self.tells(plain, plain_ticks, *world, told[0])
            if told[0] > 0:
                self.tells(None, plain_ticks, *world, told[0] - 1)
        self.assertTrue({0, 1, 2, 3, 4} <= seen)


class TableTest(PromiseCase):
    def test_tables_by_chance(self):
        for world in charged_worlds(2, 300):
            told = stop_table(*world)
            self.assertTrue(same(told, table(*world)))
            self.holds_just_if(True, stop_holds, *world, told)
            self.tells(told, stop_table, *world[:5], list(world[5]))

    def test_any_pairs_by_which_no_deed_leads_to_more(self):
        world = (read_drawing("C."), 2, 1, 0, 0, (1,))
        told = stop_table(*world)
        self.assertEqual(told, (((0, 0, 0), 0), ((0, 0, 1), 1), ((0, 0, 2), 2), ((0, 1, 0), 2), ((0, 1, 1), 3), ((1, 0, 0), 4),
                                ((1, 0, 1), 5), ((1, 0, 2), 6), ((1, 1, 0), 2), ((1, 1, 1), 3)))
        for at in range(len(told)):
            self.holds_just_if(False, stop_holds, *world, told[:at] + told[at + 1:])
        fewer = tuple((state, 0) for state, _ in told)
        self.holds_just_if(True, stop_holds, *world, fewer)
        self.holds_just_if(is_table(*world, ((told[0][0], 1),) + fewer[1:]), stop_holds, *world, ((told[0][0], 1),) + fewer[1:])
        every = tuple(((done, cell, charge), 0) for done in (0, 1) for cell in (0, 1) for charge in (0, 1, 2))
        self.holds_just_if(True, stop_holds, *world, every)
        self.holds_just_if(False, stop_holds, *world, every + (((2, 0, 0), 0),))
        self.holds_just_if(False, stop_holds, *world, every + (((1, 1, 3), 0),))
        self.holds_just_if(False, stop_holds, *world, every[::-1])
        # No more ends are done than there are, whatever leads where.
        more = tuple(((2,) + state[1:], 0) for state, _ in every if state[0] == 1)
        self.holds_just_if(False, stop_holds, *world, every + more)
        self.holds_just_if(False, stop_holds, *world, every[:-1] + (((1, 2, 2), 0),))

    def test_states_that_fill(self):
        world = (read_drawing("C"), 7, 3, 0, 0, ())
        self.tells((((0, 0, 0), 0), ((0, 0, 3), 1), ((0, 0, 6), 2), ((0, 0, 7), 3)), stop_table, *world)

    def test_a_hall_without_chargers(self):
        world = (read_drawing(".."), 3, 1, 0, 3, (1, 0))
        self.assertTrue(same(stop_table(*world), table(*world)))
        self.holds_just_if(True, stop_holds, *world, stop_table(*world))
        self.told(Refused, -1, stop_run, *world)
        self.told(Refused, -1, plain_ticks, *world, 3)

    def test_tables_changed_a_little(self):
        count = 0
        for world in charged_worlds(3, 200, 3):
            told = stop_table(*world)
            if len(told) < 9:
                for value in itertools.chain(changed_a_little(told), odd_values()):
                    count += 1
                    self.holds_just_if(is_table(*world, value), stop_holds, *world, value)
        self.assertGreater(count, 1000)


class WrongTest(PromiseCase):
    def test_wrong_ones(self):
        calls = ((stop_run, ()), (plain_ticks, (None,)), (stop_table, ()), (stop_holds, (None,)))
        bare = read_drawing("..")
        for call, more in calls:
            for value in odd_values():
                if not hasattr(value, "kinds"):
                    self.told(InvalidHall, -1, call, value, None, None, None, None, None, *more)
            for value in no_integers() + [0, -1]:
                self.told(InvalidSize, "full", call, bare, value, None, None, None, None, *more)
                self.told(InvalidSize, "gain", call, bare, 3, value, None, None, None, *more)
            for value in no_integers() + [-1, 2]:
                self.told(InvalidCell, -1, call, bare, 3, 1, value, None, None, *more)
            for value in no_integers() + [-1, 4]:
                self.told(InvalidSize, "charge", call, bare, 3, 1, 1, value, None, *more)
            for value in no_sequences():
                self.told(InvalidLot, -1, call, bare, 3, 1, 1, 3, value, *more)
            for value in no_integers() + [-1, 2]:
                self.told(InvalidLot, 1, call, bare, 3, 1, 1, 3, (0, value, None), *more)
        for value in no_integers() + [-1]:
            self.told(InvalidSize, "most", plain_ticks, bare, 3, 1, 1, 3, (0,), value)
        self.told(Refused, -1, plain_ticks, bare, 3, 1, 1, 3, (0,), 0)


if __name__ == "__main__":
    unittest.main()
