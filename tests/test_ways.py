"""[11] to [14]: ways of one robot through time."""

import itertools
import random
import unittest

from nobodymeets.errors import InvalidCell, InvalidHall, InvalidSize, InvalidStretches, InvalidWay, Refused
from nobodymeets.halls import Hall, read_drawing
from nobodymeets.stretches import free_of, late_free
from nobodymeets.ways import (coming_bound, coming_pieces, earliest_comings, earliest_row, is_late_safe, late_row,
                              latest_leavings, row_holds, table_holds, tick_cells)
from tests.hall_worlds import free_hall, random_hall
from tests.helpers import PromiseCase, changed_a_little, is_below, is_int, is_tupled, listed, odd_values, same

ROW = read_drawing("...")
ALWAYS = ((0, None),)
FREE = (ALWAYS, ((2, 3), (5, 9)), ((0, 4), (6, None)))


def is_free(free, cell, tick):
    return any(begin <= tick and (end is None or tick < end) for begin, end in free[cell])


def cells_at(hall, free, cell, tick, last):
    """[11], the plain meaning: for each tick the cells in which a robot can be."""
    found = [{cell}]
    for later in range(tick + 1, last + 1):
        found.append({other for one in found[-1] for other in (one,) + hall.followers[one] if is_free(free, other, later)})
    return found


def table(hall, free, cell, tick):
    """[11]: the first tick of each room at which a robot can be there; no coming is later than the bound of [12]."""
    bound = coming_bound(hall, free, tick)
    found = cells_at(hall, free, cell, tick, bound + 1)

    def first(one, begin, end):
        ticks = range(max(begin, tick), bound + 2 if end is None else end)
        return next((at for at in ticks if one in found[at - tick]), None)

    return tuple(tuple(first(one, begin, end) for begin, end in free[one]) for one in range(hall.cells))


def is_row(hall, free, tick, value):
    """[11]: whether a value is cells that can be gone so from a tick on."""
    if not isinstance(value, tuple) or not value or not all(is_below(cell, hall.cells) for cell in value):
        return False
    if not all(one == other or (one, other) in hall.ways for one, other in zip(value, value[1:])):
        return False
    return all(is_free(free, cell, tick + place) for place, cell in enumerate(value))


def random_stretches(chance, most=14):
    ticks = [tick for tick in range(most) if chance.random() < chance.choice((0.3, 0.7, 0.9))]
    found = []
    for tick in ticks:
        if found and found[-1][1] == tick:
            found[-1] = (found[-1][0], tick + 1)
        else:
            found.append((tick, tick + 1))
    if found and chance.random() < 0.3:
        found[-1] = (found[-1][0], None)
    return tuple(found)


def worlds(seed, many, most=5):
    """Halls, stretches, and a cell with a tick at which it is free."""
    chance = random.Random(seed)
    while many:
        hall = random_hall(chance, most)
        free = tuple(ALWAYS if chance.random() < 0.1 else random_stretches(chance) for _ in range(hall.cells))
        cell, tick = chance.randrange(hall.cells), chance.randint(0, 9)
        if is_free(free, cell, tick):
            many -= 1
            yield chance, hall, free, cell, tick


class ComingTest(PromiseCase):
    def test_a_row_of_three(self):
        self.tells(((0,), (2, 5), (3, 6)), earliest_comings, ROW, FREE, 0, 0)
        self.tells(((4,), (None, 5), (None, 6)), earliest_comings, ROW, FREE, 0, 4)
        self.assertEqual(earliest_row(ROW, FREE, 0, 0, 2), (0, 0, 1, 2))
        self.assertEqual(earliest_row(ROW, FREE, 0, 4, 2), (0, 1, 2))
        self.tells(None, earliest_row, ROW, FREE, 0, 8, 2)
        self.tells((0,), earliest_row, ROW, FREE, 0, 7, 0)
        self.tells(((0,), (0,), (0, 1), (0, 2), (0,)), tick_cells, ROW, FREE, 0, 0, 4)
        self.tells(((2,),), tick_cells, ROW, FREE, 2, 3, 3)

    def test_a_cell_that_is_never_free(self):
        free = (ALWAYS, (), ALWAYS)
        self.tells(((0,), (), (None,)), earliest_comings, ROW, free, 0, 0)
        self.tells(None, earliest_row, ROW, free, 0, 0, 2)
        self.tells(None, earliest_row, ROW, free, 0, 0, 1)
        self.tells(((None,), (), (7,)), latest_leavings, ROW, free, 2, 7)
        self.told(Refused, 1, earliest_comings, ROW, free, 1, 0)

    def test_a_stretch_of_one_tick_and_one_without_end(self):
        free = (((0, 6),), ((3, 4),), ((4, None),))
        self.tells(((0,), (3,), (4,)), earliest_comings, ROW, free, 0, 0)
        self.tells(((3,), (None,), (None,)), earliest_comings, ROW, free, 0, 3)
        # In a row of free cells the farthest one is come to just at the bound.
        for tick in (0, 4, 10 ** 9):
            bound = coming_bound(ROW, (ALWAYS,) * 3, tick)
            self.assertEqual(earliest_comings(ROW, (ALWAYS,) * 3, 0, tick)[2], (bound,))
        self.tells(((2,), (3,), (10 ** 9,)), latest_leavings, ROW, free, 2, 10 ** 9)
        self.tells(((10 ** 9,), (10 ** 9 + 1,), (10 ** 9 + 2,)), earliest_comings, ROW, (ALWAYS,) * 3, 0, 10 ** 9)
        self.assertEqual(coming_bound(ROW, (ALWAYS,) * 3, 10 ** 9), 10 ** 9 + 2)

    def test_nobody_enters_as_a_stretch_ends(self):
        # One is in a room at its last tick at the latest, so in the next one at its end at the latest.
        for begin, coming in ((3, 3), (4, 4), (5, None)):
            free = (((0, 4),), ((begin, 9),))
            self.tells(((0,), (coming,)), earliest_comings, read_drawing(".."), free, 0, 0)

    def test_comings_by_chance(self):
        for _, hall, free, cell, tick in worlds(1, 700):
            told = earliest_comings(hall, free, cell, tick)
            self.assertTrue(same(told, table(hall, free, cell, tick)), (hall.ways, free, cell, tick, told))
            self.holds_just_if(True, table_holds, hall, free, cell, tick, told)
            bound = coming_bound(hall, free, tick)
            ends = [at for stretches in free for pair in stretches for at in pair if at is not None]
            self.assertEqual(bound, max(ends + [tick]) + hall.cells - 1)
            self.assertTrue(all(at <= bound for row in told for at in row if at is not None))
            last = tick + 6
            expected = tuple(tuple(sorted(cells)) for cells in cells_at(hall, free, cell, tick, last))
            self.tells(expected, tick_cells, hall, free, cell, tick, last)
            self.tells(told, earliest_comings, hall, listed(free), cell, tick)

    def test_in_a_room_one_can_be_exactly_from_its_coming_on(self):
        for _, hall, free, cell, tick in worlds(2, 150):
            told = earliest_comings(hall, free, cell, tick)
            found = cells_at(hall, free, cell, tick, tick + 20)
            for one, stretches in enumerate(free):
                for number, (begin, end) in enumerate(stretches):
                    for at in range(max(begin, tick), min(tick + 21, 10 ** 9 if end is None else end)):
                        coming = told[one][number]
                        self.assertEqual(one in found[at - tick], coming is not None and coming <= at)

    def test_rows_by_chance(self):
        never = 0
        for chance, hall, free, cell, tick in worlds(3, 500):
            goal = chance.randrange(hall.cells)
            row = earliest_row(hall, free, cell, tick, goal)
            comings = [at for at in table(hall, free, cell, tick)[goal] if at is not None]
            if row is None:
                never += 1
                self.assertEqual(comings, [])
                continue
            self.assertTrue(is_tupled(row) and is_row(hall, free, tick, row))
            self.assertEqual((row[0], row[-1], len(row) - 1), (cell, goal, min(comings) - tick))
            self.assertNotIn(goal, row[:-1])
            self.holds_just_if(True, row_holds, hall, free, tick, row)
            for value in itertools.islice(changed_a_little(row), 60):
                self.holds_just_if(is_row(hall, free, tick, value), row_holds, hall, free, tick, value)
        self.assertGreater(never, 20)

    def test_rows_that_are_none(self):
        for value in odd_values():
            self.holds_just_if(is_row(ROW, FREE, 0, value), row_holds, ROW, FREE, 0, value)
        for value, expected in (((0, 0, 1, 2), True), ((0, 1), False), ([0, 0, 1], False), ((), False), ((0, 0, 0, 1), False),
                                ((0, 0, 1, 1), False), ((0, 0, False), False), ((1,), False), ((2, 2, 2, 2, 2), False)):
            self.holds_just_if(expected, row_holds, ROW, FREE, 0, value)


class TableTest(PromiseCase):
    def test_just_one_table_holds(self):
        for _, hall, free, cell, tick in worlds(4, 120):
            told = earliest_comings(hall, free, cell, tick)
            for value in changed_a_little(told):
                self.holds_just_if(same(value, told), table_holds, hall, free, cell, tick, value)

    def test_tables_of_small_numbers(self):
        pair = read_drawing("..")
        free = (((0, 2), (3, 4)), ((1, 5),))
        told = earliest_comings(pair, free, 0, 0)
        self.assertEqual(told, ((0, 3), (1,)))
        count = 0
        for row in itertools.product((None, 0, 1, 2, 3, 4), repeat=3):
            value = (row[:2], row[2:])
            count += table_holds(pair, free, 0, 0, value)
            self.holds_just_if(value == told, table_holds, pair, free, 0, 0, value)
        self.assertEqual(count, 1)

    def test_rooms_come_to_from_each_other_alone(self):
        # Two rooms that would each be come to from the other are come to from nowhere.
        hall = free_hall(3, [(1, 2), (2, 1)])
        free = (ALWAYS, ((5, 9),), ((5, 9),))
        self.tells(((0,), (None,), (None,)), earliest_comings, hall, free, 0, 0)
        self.holds_just_if(False, table_holds, hall, free, 0, 0, ((0,), (5,), (5,)))
        self.holds_just_if(False, table_holds, hall, free, 0, 0, ((0,), (5,), (6,)))
        self.holds_just_if(True, table_holds, hall, free, 0, 0, ((0,), (None,), (None,)))

    def test_odd_tables(self):
        for value in odd_values():
            self.holds_just_if(False, table_holds, ROW, FREE, 0, 0, value)
            self.holds_just_if(False, table_holds, ROW, FREE, 0, 0, ((0,), (2, 5), (3, value)))


class LeavingTest(PromiseCase):
    def latest(self, hall, free, goal, tick):
        """[13]: from which rooms one can be in the goal at a tick, from sets told backwards."""
        sets = {tick: {goal}}
        for at in range(tick - 1, -1, -1):
            sets[at] = {one for one in range(hall.cells) if is_free(free, one, at)
                        and any(other in sets[at + 1] for other in (one,) + hall.followers[one])}

        def last(one, begin, end):
            ticks = [at for at in range(begin, min(tick + 1, tick + 1 if end is None else end)) if one in sets[at]]
            return max(ticks, default=None)

        return tuple(tuple(last(one, begin, end) for begin, end in free[one]) for one in range(hall.cells))

    def test_leavings_by_chance(self):
        for _, hall, free, goal, tick in worlds(5, 500):
            told = latest_leavings(hall, free, goal, tick)
            self.assertTrue(same(told, self.latest(hall, free, goal, tick)), (hall.ways, free, goal, tick, told))
            # From a tick of a room one can be there then exactly if it is no later than this.
            for one, stretches in enumerate(free):
                for number, (begin, end) in enumerate(stretches):
                    for at in range(begin, min(tick + 1, tick + 1 if end is None else end)):
                        sets = cells_at(hall, free, one, at, tick)
                        latest = told[one][number]
                        self.assertEqual(goal in sets[-1], latest is not None and at <= latest)

    def test_these_are_comings_turned_about_in_time(self):
        for _, hall, free, goal, tick in worlds(6, 300):
            turned = Hall(hall.kinds, [(other, one) for one, other in hall.ways])
            back = []
            for stretches in free:
                pairs = [(0 if end is None else max(0, tick - end + 1), tick - begin + 1) for begin, end in stretches]
                back.append(tuple([pair for pair in pairs if pair[0] < pair[1]][::-1]))
            comings = earliest_comings(turned, tuple(back), goal, 0)
            told = latest_leavings(hall, free, goal, tick)
            for one, row in enumerate(told):
                early = [latest for (begin, _), latest in zip(free[one], row) if begin <= tick]
                self.assertEqual([at if at is None else tick - at for at in comings[one]][::-1], early)

    def test_leavings_at_the_last_tick_of_a_stretch(self):
        pair = read_drawing("..")
        free = (((0, 4),), ((4, 9),))
        self.tells(((3,), (4,)), latest_leavings, pair, free, 1, 4)
        self.tells(((3,), (8,)), latest_leavings, pair, free, 1, 8)
        self.tells(((None,), (5,)), latest_leavings, pair, (((0, 4),), ((5, 9),)), 1, 5)
        self.tells(((0,), (None,)), latest_leavings, pair, free, 0, 0)
        self.told(Refused, 1, latest_leavings, pair, free, 1, 3)


class PieceTest(PromiseCase):
    def pieces(self, hall, free, cell, goal, first, last):
        found = []
        for tick in range(first, last + 1):
            if is_free(free, cell, tick):
                bound = coming_bound(hall, free, tick)
                sets = cells_at(hall, free, cell, tick, bound)
                found.append((tick, next((tick + at for at, cells in enumerate(sets) if goal in cells), None)))
        pieces = []
        for tick, coming in found:
            if pieces and pieces[-1][1] == tick - 1 and pieces[-1][2] == coming:
                pieces[-1] = (pieces[-1][0], tick, coming)
            else:
                pieces.append((tick, tick, coming))
        return tuple(pieces)

    def test_pieces_by_chance(self):
        for chance, hall, free, cell, tick in worlds(7, 200):
            goal, last = chance.randrange(hall.cells), tick + chance.randint(0, 8)
            told = coming_pieces(hall, free, cell, goal, tick, last)
            self.assertTrue(same(told, self.pieces(hall, free, cell, goal, tick, last)))
            # Within a stretch comings never fall as one starts later.
            for one, other in zip(told, told[1:]):
                if one[1] + 1 == other[0]:
                    self.assertTrue(other[2] is None or (one[2] is not None and one[2] < other[2]))

    def test_pieces_that_end_where_no_coming_is(self):
        self.tells(((0, 1, 3), (2, 4, 6), (5, 5, 7), (6, 6, 8), (7, 7, 9), (8, 12, None)), coming_pieces, ROW, FREE, 0, 2,
                   0, 12)
        self.tells(((2, 2, 3), (5, 5, 6), (6, 6, 7)), coming_pieces, ROW, FREE, 1, 2, 0, 6)
        self.tells((), coming_pieces, ROW, (ALWAYS, (), ALWAYS), 1, 0, 3, 9)
        self.tells(((3, 9, None),), coming_pieces, ROW, (ALWAYS, (), ALWAYS), 0, 1, 3, 9)
        self.tells(((3, 3, 3), (4, 4, 4)), coming_pieces, ROW, FREE, 0, 0, 3, 4)
        # A gap parts what has the same coming.
        self.tells(((0, 1, 9), (3, 4, 9)), coming_pieces, free_hall(3, [(0, 1), (1, 2), (0, 2)]),
                   (((0, 2), (3, 5)), (((1, 9)),), ((9, None),)), 0, 2, 0, 4)


class LateTest(PromiseCase):
    def test_late_rows(self):
        self.tells((0, 0, 0, 1, 2, 2), late_row, (0, 1, 2), [2, 0, 1])
        self.tells((0, 1, 2), late_row, [0, 1, 2], (0, 0, 0))
        self.tells((), late_row, (), ())
        for row in odd_values():
            if not isinstance(row, (list, tuple)):
                self.told(InvalidWay, -1, late_row, row, None)
        for waits in odd_values() + [(0,), (0, 1, 2), (0, -1), (0, True), (0, None), "00"]:
            if waits != ((0, 0),):
                self.told(InvalidSize, "waits", late_row, (0, 1), waits)

    def test_a_row_that_some_lateness_spoils(self):
        free = (((0, 4),), ((1, 6),), ((2, None),))
        for late, expected in ((0, True), (1, True), (2, True), (3, True), (4, False)):
            self.holds_just_if(expected, is_late_safe, ROW, free, 0, (0, 1, 2), late)
        self.holds_just_if(False, is_late_safe, ROW, free, 1, (0, 1, 2), 3)
        # A row that itself isn't in free cells is spoilt by none.
        self.holds_just_if(False, is_late_safe, ROW, free, 9, (0, 1, 2), 0)
        self.holds_just_if(True, is_late_safe, ROW, (ALWAYS,) * 3, 5, (0,), 10 ** 9)
        self.holds_just_if(False, is_late_safe, ROW, (((0, 10 ** 9),),) * 3, 5, (0,), 10 ** 9)

    def test_lateness_by_chance(self):
        seen = set()
        for chance, hall, free, cell, tick in worlds(8, 400):
            row = [cell]
            while len(row) < 5 and chance.random() < 0.6:
                row.append(chance.choice((row[-1],) + hall.followers[row[-1]]))
            late = chance.randint(0, 3)
            waits = [some for some in itertools.product(range(late + 1), repeat=len(row)) if sum(some) <= late]
            expected = all(is_row(hall, free, tick, late_row(row, some)) for some in waits)
            seen.add(expected)
            self.holds_just_if(expected, is_late_safe, hall, free, tick, row, late)
            self.holds_just_if(expected, row_holds, hall, late_free(hall, free, late), tick, tuple(row))
        self.assertEqual(seen, {True, False})

    def test_the_earliest_row_that_no_lateness_spoils(self):
        for chance, hall, free, cell, tick in worlds(9, 200):
            late, goal = chance.randint(1, 3), chance.randrange(hall.cells)
            shorter = late_free(hall, free, late)
            if is_free(shorter, cell, tick):
                row = earliest_row(hall, shorter, cell, tick, goal)
                if row is not None:
                    self.holds_just_if(True, is_late_safe, hall, free, tick, row, late)

    def test_rows_that_cannot_be_gone(self):
        for row in odd_values() + [(0, 2), (), (0, 1, 3), (0, True), (0, None), "0"]:
            if row not in ((0,), [0]):
                self.told(InvalidWay, -1, is_late_safe, ROW, FREE, 0, row, None)


class WrongTest(PromiseCase):
    def test_errors_in_their_order(self):
        never = (ALWAYS, (), ALWAYS)
        self.told(InvalidHall, -1, earliest_row, None, None, None, None, None)
        self.told(InvalidStretches, -1, earliest_row, ROW, FREE[:2], 3, -1, 3)
        self.told(InvalidStretches, 1, earliest_row, ROW, (ALWAYS, ((3, 3),), None), 3, -1, 3)
        self.told(InvalidCell, 0, earliest_row, ROW, never, 3, -1, 3)
        self.told(InvalidSize, "tick", earliest_row, ROW, never, 1, -1, 3)
        self.told(InvalidCell, 1, earliest_row, ROW, never, 1, 0, 3)
        self.told(Refused, 1, earliest_row, ROW, never, 1, 0, 2)
        self.told(InvalidCell, -1, earliest_comings, ROW, never, 3, -1)
        self.told(InvalidCell, -1, table_holds, ROW, never, 3, -1, None)
        self.told(Refused, 1, table_holds, ROW, never, 1, 4, None)
        self.told(InvalidCell, -1, latest_leavings, ROW, never, True, -1)
        self.told(InvalidSize, "tick", latest_leavings, ROW, never, 1, True)
        self.told(InvalidSize, "last", tick_cells, ROW, never, 1, 4, 3)
        self.told(InvalidSize, "last", tick_cells, ROW, never, 1, 4, True)
        self.told(Refused, 1, tick_cells, ROW, never, 1, 4, 4)
        self.told(InvalidCell, 0, coming_pieces, ROW, never, 3, 3, -1, -2)
        self.told(InvalidCell, 1, coming_pieces, ROW, never, 1, 3, -1, -2)
        self.told(InvalidSize, "first", coming_pieces, ROW, never, 1, 1, -1, -2)
        self.told(InvalidSize, "last", coming_pieces, ROW, never, 1, 1, 5, 4)
        self.told(InvalidSize, "tick", coming_bound, ROW, never, None)
        self.told(InvalidSize, "tick", row_holds, ROW, never, -1, None)
        self.told(InvalidSize, "tick", is_late_safe, ROW, never, -1, (), None)
        self.told(InvalidWay, -1, is_late_safe, ROW, never, 0, (0, 2), None)
        self.told(InvalidSize, "late", is_late_safe, ROW, never, 0, (0, 1), None)

    def test_among_a_plan_s_robots(self):
        # The stretches of [10] keep a robot from all others.
        hall = read_drawing("...\n...")
        free = free_of(hall, ((0, 1, 2), (5, 5, 5)))
        row = earliest_row(hall, free, 3, 0, 0)
        self.assertEqual(row, (3, 3, 0))


if __name__ == "__main__":
    unittest.main()
