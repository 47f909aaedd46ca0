"""[56]: charge, and halls in which robots can be sent for ever."""

import itertools
import random
import unittest

from nobodymeets.charge import (charger_comings, charger_steps, latest_turn, least_full, served_holds, served_paper)
from nobodymeets.errors import InvalidHall, InvalidSize, InvalidWay, Refused
from nobodymeets.halls import Hall, read_drawing
from tests.hall_worlds import ends_in, is_free, is_row_of_ways, random_halls, steps, subsets, tied_hall
from tests.helpers import (PromiseCase, changed_a_little, is_below, is_int, is_rising, is_tupled, no_integers,
                           odd_values, same)

ROW = read_drawing("C..P..C")


def chargers_of(hall):
    return [cell for cell in range(hall.cells) if hall.kinds[cell] == "charger"]


def least(values):
    return min([value for value in values if value is not None], default=None)


def from_any(hall, begins, cell):
    return least([steps(hall, begin, cell) for begin in begins])


def to_any(hall, cell, ends):
    return least([steps(hall, cell, end) for end in ends])


def bounded(row, full):
    return tuple(full + 1 if value is None or value > full else value for value in row)


def are_hopped(hall, full):
    """Whether by hops each charger leads to each."""
    chargers = chargers_of(hall)
    for one in chargers:
        led = {one}
        for _ in chargers:
            led |= {b for a in led for b in chargers if steps(hall, a, b) is not None and steps(hall, a, b) <= full}
        if led != set(chargers):
            return False
    return True


def is_served(hall, full):
    chargers = chargers_of(hall)
    for cell in ends_in(hall):
        one, other = from_any(hall, chargers, cell), to_any(hall, cell, chargers)
        if one is None or other is None or one + other > full:
            return False
    return are_hopped(hall, full)


def are_numbers(hall, value, zeros, ways):
    if not isinstance(value, tuple) or len(value) != hall.cells:
        return False
    if not all(is_int(number) and number >= 0 for number in value):
        return False
    return all(value[cell] == 0 for cell in zeros) and all(value[b] <= value[a] + 1 for a, b in ways)


def are_hops(hall, full, value, outward):
    chargers = chargers_of(hall)
    if not isinstance(value, tuple):
        return False
    led = [chargers[0]]
    for hop in value:
        if not is_row_of_ways(hall, hop) or len(hop) - 1 > full:
            return False
        known, new = (hop[0], hop[-1]) if outward else (hop[-1], hop[0])
        if known not in led or new not in chargers or new in led:
            return False
        led.append(new)
    return sorted(led) == chargers


def is_paper(hall, full, value):
    """[56]: straight from the document."""
    if not isinstance(value, tuple) or not value or not isinstance(value[0], str):
        return False
    chargers = chargers_of(hall)
    if value[0] == "served" and len(value) == 4:
        ends = value[1]
        if not isinstance(ends, tuple) or len(ends) != len(ends_in(hall)):
            return False
        for cell, part in zip(ends_in(hall), ends):
            if not isinstance(part, tuple) or len(part) != 3 or not same(part[0], cell):
                return False
            if not is_row_of_ways(hall, part[1]) or not is_row_of_ways(hall, part[2]):
                return False
            if part[1][0] not in chargers or part[1][-1] != cell or part[2][0] != cell or part[2][-1] not in chargers:
                return False
            if len(part[1]) - 1 + len(part[2]) - 1 > full:
                return False
        return are_hops(hall, full, value[2], True) and are_hops(hall, full, value[3], False)
    if value[0] == "end" and len(value) == 4:
        back = [(b, a) for a, b in hall.ways]
        if not is_below(value[1], hall.cells) or is_free(hall, value[1]):
            return False
        return (are_numbers(hall, value[2], chargers, hall.ways) and are_numbers(hall, value[3], chargers, back)
                and value[2][value[1]] + value[3][value[1]] > full)
    if value[0] != "shut" or len(value) != 3:
        return False
    lot = value[1]
    if not isinstance(lot, tuple) or not lot or not all(is_below(cell, hall.cells) for cell in lot):
        return False
    if not is_rising(lot) or not set(lot) < set(chargers) or not are_numbers(hall, value[2], lot, hall.ways):
        return False
    return all(value[2][cell] > full for cell in chargers if cell not in lot)


def worlds(seed, many, most):
    chance = random.Random(seed)
    kinds = ("free", "free", "free", "park", "charger")
    found = 0
    while found < many:
        hall = next(random_halls(chance, 1, most, chance.choice((kinds, kinds + ("charger",)))))
        if chargers_of(hall):
            found += 1
            yield hall


class StepsTest(PromiseCase):
    def test_rows(self):
        self.tells((0, 1, 2, 3, 2, 1, 0), charger_steps, ROW)
        self.tells((0, 1, 2, 3, 2, 1, 0), charger_comings, ROW)
        one_way = read_drawing("C>.>P")
        self.tells((0, None, None, None, None), charger_steps, one_way)
        self.tells((0, 1, 2, 3, 4), charger_comings, one_way)
        # Through any cells, also through others than free ones.
        self.tells((2, 1, 0), charger_steps, read_drawing("PSC"))

    def test_a_hall_without_chargers(self):
        hall = read_drawing("P.H")
        for call, more in ((charger_steps, ()), (charger_comings, ()), (latest_turn, ((0, 1), 5)), (served_paper, (3,)),
                           (served_holds, (3, None)), (least_full, ())):
            self.told(Refused, -1, call, hall, *more)
        # Behind all else.
        self.told(InvalidWay, 1, latest_turn, hall, (0, 2), None)
        self.told(InvalidSize, "charge", latest_turn, hall, (0, 1), None)
        self.told(InvalidSize, "full", served_paper, hall, 0)
        self.told(InvalidSize, "full", served_holds, hall, 0, None)

    def test_a_charger_beside_each_cell(self):
        hall = read_drawing("PCS\nC.C\nHCP")
        self.tells((1, 0, 1, 0, 1, 0, 1, 0, 1), charger_steps, hall)
        self.tells(2, least_full, hall)

    def test_halls_by_chance(self):
        for hall in worlds(1, 150, 7):
            chargers = chargers_of(hall)
            self.tells(tuple(to_any(hall, cell, chargers) for cell in range(hall.cells)), charger_steps, hall)
            self.tells(tuple(from_any(hall, chargers, cell) for cell in range(hall.cells)), charger_comings, hall)

    def test_wrong_halls(self):
        for value in odd_values():
            if not isinstance(value, Hall):
                for call, more in ((charger_steps, ()), (charger_comings, ()), (latest_turn, (None, None)),
                                   (served_paper, (None,)), (served_holds, (None, None)), (least_full, ())):
                    self.told(InvalidHall, -1, call, value, *more)


class TurnTest(PromiseCase):
    def test_turns(self):
        way = (0, 1, 2, 3, 4, 5, 6)
        for charge, place in ((0, 0), (1, 0), (2, 1), (3, 1), (4, 2), (5, 2), (6, 6), (7, 6), (10 ** 9, 6)):
            self.tells(place, latest_turn, ROW, way, charge)
        self.tells(None, latest_turn, ROW, (3, 2), 2)
        self.tells(1, latest_turn, ROW, [3, 2], 3)
        self.tells(0, latest_turn, ROW, (0,), 0)
        self.tells(None, latest_turn, read_drawing("C>."), (1, 2), 9)

    def test_turns_by_chance(self):
        chance = random.Random(2)
        for hall in worlds(2, 300, 7):
            way = [chance.randrange(hall.cells)]
            while hall.followers[way[-1]] and chance.random() < 0.8:
                way.append(chance.choice(hall.followers[way[-1]]))
            charge = chance.randint(0, 8)
            places = [at for at, cell in enumerate(way) if to_any(hall, cell, chargers_of(hall)) is not None
                      and at + to_any(hall, cell, chargers_of(hall)) <= charge]
            self.tells(max(places, default=None), latest_turn, hall, way, charge)

    def test_wrong_arguments(self):
        for way, at in ((None, -1), ((), -1), ((7,), 0), ((0, 2), 1), ((0, 1, True), 2), ("01", -1)):
            self.told(InvalidWay, at, latest_turn, ROW, way, None)
        for charge in no_integers() + [-1]:
            self.told(InvalidSize, "charge", latest_turn, ROW, (0, 1), charge)


class ServedTest(PromiseCase):
    def test_one_charger_alone(self):
        hall = read_drawing("C")
        self.tells(("served", ((0, (0,), (0,)),), (), ()), served_paper, hall, 1)
        self.tells(1, least_full, hall)
        self.tells(1, least_full, read_drawing("C..."))
        self.holds_just_if(True, served_holds, hall, 1, ("served", ((0, (0,), (0,)),), (), ()))

    def test_a_row(self):
        self.tells(("served", ((0, (0,), (0,)), (3, (0, 1, 2, 3), (3, 2, 1, 0)), (6, (6,), (6,))),
                    ((0, 1, 2, 3, 4, 5, 6),), ((6, 5, 4, 3, 2, 1, 0),)), self.with_first_ways, ROW, 6)
        self.tells(("end", 3, (0, 1, 2, 3, 2, 1, 0), (0, 1, 2, 3, 2, 1, 0)), served_paper, ROW, 5)
        self.tells(("end", 3, (0, 1, 2, 2, 2, 1, 0), (0, 1, 2, 2, 2, 1, 0)), served_paper, ROW, 1)
        self.tells(6, least_full, ROW)

    def with_first_ways(self, hall, full):
        """The paper of a row, with the ways from and to the first charger where both are as near."""
        word, ends, outs, ins = served_paper(hall, full)
        self.assertTrue(is_paper(hall, full, (word, ends, outs, ins)))
        near = {(6, 5, 4, 3): (0, 1, 2, 3), (3, 4, 5, 6): (3, 2, 1, 0)}
        return (word, tuple((cell, near.get(one, one), near.get(other, other)) for cell, one, other in ends), outs, ins)

    def test_two_ways_together_are_no_longer_than_a_full_charge(self):
        hall = read_drawing("C..P")
        near = (0, (0,), (0,))
        for part, full, expected in (((3, (0, 1, 2, 3), (3, 2, 1, 0)), 6, True), ((3, (0, 1, 2, 3), (3, 2, 1, 0)), 5, False),
                                     ((3, (0, 1, 2, 1, 2, 3), (3, 2, 1, 0)), 7, False),
                                     ((3, (0, 1, 2, 1, 2, 3), (3, 2, 1, 0)), 8, True),
                                     ((3, (0, 1, 2, 3), (3, 2, 1, 2, 1, 0)), 7, False),
                                     ((3, (0, 1, 2), (3, 2, 1, 0)), 9, False), ((3, (0, 1, 2, 3), (2, 1, 0)), 9, False),
                                     ((3, (3,), (3, 2, 1, 0)), 9, False), ((3, (0, 1, 2, 3), (3,)), 9, False),
                                     ((3, (3, 2, 1, 0), (0, 1, 2, 3)), 9, False), ((0, (0,), (0,)), 9, False)):
            value = ("served", (near, part), (), ())
            self.assertEqual(is_paper(hall, full, value), expected, value)
            self.holds_just_if(expected, served_holds, hall, full, value)

    def test_the_least_of_many_hops(self):
        self.tells(5, least_full, read_drawing("C..C....C"))
        self.tells(5, least_full, read_drawing("C....C..C"))
        self.tells(8, least_full, tied_hall("c.......c", [(cell, cell + 1) for cell in range(8)]))

    def test_cells_too_far_from_any(self):
        hall = read_drawing("C>.P#H")
        self.tells(("end", 3, (0, 1, 2, 3, 10), (0, 10, 10, 10, 10)), served_paper, hall, 9)
        self.tells(None, least_full, hall)
        self.tells(("end", 1, (0, 3), (0, 3)), served_paper, read_drawing("C#P"), 2)

    def test_chargers_too_far_from_each_other(self):
        hall = read_drawing("C....C")
        self.tells(("shut", (0,), (0, 1, 2, 3, 4, 5)), served_paper, hall, 4)
        self.tells(("shut", (0,), (0, 1, 2, 3, 3, 3)), served_paper, hall, 2)
        self.tells(5, least_full, hall)
        self.tells(("shut", (0,), (0, 1, 4)), served_paper, read_drawing("C.#C"), 3)
        # All are led to from the least one, but not all lead to it.
        there = Hall(("charger", "charger", "charger"), [(0, 1), (1, 2), (2, 1)])
        self.tells(("shut", (1, 2), (4, 0, 0)), served_paper, there, 3)
        self.tells(None, least_full, there)

    def test_halls_by_chance(self):
        for hall in worlds(3, 350, 6):
            for full in (1, 2, 3, 4, 7):
                paper = served_paper(hall, full)
                self.assertTrue(is_tupled(paper) and is_paper(hall, full, paper), (hall.kinds, hall.ways, full, paper))
                self.holds_just_if(True, served_holds, hall, full, paper)
                self.assertEqual(paper[0] == "served", is_served(hall, full))
                self.check_parts(hall, full, paper)

    def check_parts(self, hall, full, paper):
        chargers, cells = chargers_of(hall), range(hall.cells)
        comings = bounded([from_any(hall, chargers, cell) for cell in cells], full)
        backs = bounded([to_any(hall, cell, chargers) for cell in cells], full)
        far = [cell for cell in ends_in(hall) if comings[cell] + backs[cell] > full]
        if far:
            self.assertTrue(same(paper, ("end", far[0], comings, backs)))
        elif paper[0] == "shut":
            self.assertEqual(paper[2], bounded([from_any(hall, paper[1], cell) for cell in cells], full))
        else:
            for cell, one, other in paper[1]:
                self.assertEqual((len(one) - 1, len(other) - 1), (comings[cell], backs[cell]))

    def test_the_least_full_charge(self):
        for hall in worlds(4, 300, 6):
            fulls = [full for full in range(1, 14) if is_served(hall, full)]
            self.tells(fulls[0] if fulls else None, least_full, hall)

    def test_served_just_if_there_is_none_of_the_others(self):
        chance = random.Random(7)
        for hall in worlds(5, 60, 4):
            for full in (1, 2, 3):
                cells, chargers = range(hall.cells), chargers_of(hall)
                rows = list(itertools.product(range(full + 2), repeat=hall.cells))
                back = [(b, a) for a, b in hall.ways]
                ones = [row for row in rows if are_numbers(hall, row, chargers, hall.ways)]
                others = [row for row in rows if are_numbers(hall, row, chargers, back)]
                ends = [("end", cell, max(ones, key=lambda row: row[cell]), max(others, key=lambda row: row[cell]))
                        for cell in cells]
                values = ends + [("shut", lot, row) for lot in subsets(cells) for row in rows if chance.random() < 0.4]
                values += [("end", chance.choice(cells), chance.choice(rows), chance.choice(rows)) for _ in range(60)]
                held = {value[0] for value in values if is_paper(hall, full, value)}
                for value in values:
                    self.holds_just_if(is_paper(hall, full, value), served_holds, hall, full, value)
                self.assertFalse(held and is_served(hall, full))

    def test_papers_changed_a_little(self):
        for hall in itertools.chain(worlds(6, 60, 5), [ROW]):
            for full in (2, 4, 6):
                for value in changed_a_little(served_paper(hall, full)):
                    self.holds_just_if(is_paper(hall, full, value), served_holds, hall, full, value)

    def test_any_such_ways_and_hops(self):
        hall = tied_hall("c.cc", [(0, 1), (1, 2), (2, 3)])
        ends = ((0, (0,), (0,)), (2, (2,), (2,)), (3, (3,), (3,)))
        far = ((0, (0, 1, 0), (0,)), (2, (3, 2), (2, 3)), (3, (3,), (3,)))
        outs, ins = ((0, 1, 2), (2, 3)), ((2, 1, 0), (3, 2))
        for value, full, expected in (
                (("served", ends, outs, ins), 2, True), (("served", far, outs, ins), 2, True),
                (("served", far, outs, ins), 1, False), (("served", ends, outs, ins), 1, False),
                (("served", ends, ((0, 1, 2, 3), (3, 2)), ins), 3, True),
                (("served", ends, ((0, 1, 2, 3), (3, 2)), ins), 2, False),
                (("served", ends, outs[::-1], ins), 2, False), (("served", ends, outs, ins[::-1]), 2, False),
                (("served", ends, outs, ((2, 1, 0), (3, 2, 1, 0))), 3, True), (("served", ends, ins, outs), 2, False),
                (("served", ends, outs + ((0, 1, 2),), ins), 2, False), (("served", ends, outs[:1], ins), 2, False),
                (("served", ends, ((0, 1, 0), (0, 1, 2)), ins), 2, False), (("served", ends[:2], outs, ins), 2, False),
                (("served", ends[::-1], outs, ins), 2, False), (("served", list(ends), outs, ins), 2, False),
                (("served", ends, ((0, 1), (1, 2, 3)), ins), 2, False)):
            self.assertEqual(is_paper(hall, full, value), expected, value)
            self.holds_just_if(expected, served_holds, hall, full, value)

    def test_any_such_numbers(self):
        row = read_drawing("C..P")
        for value, full, expected in (
                (("end", 3, (0, 1, 2, 3), (0, 1, 2, 3)), 5, True), (("end", 3, (0, 1, 2, 3), (0, 0, 0, 0)), 2, True),
                (("end", 3, (0, 0, 1, 2), (0, 1, 2, 3)), 4, True), (("end", 3, (0, 0, 1, 2), (0, 1, 2, 3)), 5, False),
                (("end", 3, (0, 1, 2, 4), (0, 1, 2, 3)), 5, False), (("end", 3, (1, 2, 3, 4), (0, 1, 2, 3)), 5, False),
                (("end", 0, (0, 1, 2, 3), (0, 1, 2, 3)), 1, False), (("end", 2, (0, 1, 2, 3), (0, 1, 2, 3)), 1, False),
                (("end", 3, [0, 1, 2, 3], (0, 1, 2, 3)), 5, False), (("end", 3, (0, 1, 2), (0, 1, 2, 3)), 2, False),
                (("end", 3, (0, 1, 2, 3), (0, 1, 2, 3, 4)), 2, False), (("end", 3, (0, 5, 2, 3), (0, 1, 2, 3)), 2, False),
                (("shut", (), (9, 9, 9, 9)), 1, False), (("shut", (0,), (0, 1, 2, 3)), 1, False)):
            self.assertEqual(is_paper(row, full, value), expected, value)
            self.holds_just_if(expected, served_holds, row, full, value)
        far = read_drawing("C..C.C")
        for value, full, expected in (
                (("shut", (0,), (0, 1, 2, 3, 4, 5)), 2, True), (("shut", (0,), (0, 1, 2, 3, 3, 3)), 2, True),
                (("shut", (0,), (0, 1, 2, 3, 3, 3)), 3, False), (("shut", (3, 5), (3, 2, 1, 0, 0, 0)), 2, True),
                (("shut", (3,), (3, 2, 1, 0, 1, 2)), 1, True), (("shut", (3,), (3, 2, 1, 0, 1, 2)), 2, False),
                (("shut", (0, 3, 5), (0, 1, 1, 0, 1, 0)), 1, False), (("shut", (5, 3), (3, 2, 1, 0, 0, 0)), 2, False),
                (("shut", (0, 1), (0, 0, 1, 2, 3, 4)), 1, False), (("shut", [0], (0, 1, 2, 3, 4, 5)), 2, False)):
            self.assertEqual(is_paper(far, full, value), expected, value)
            self.holds_just_if(expected, served_holds, far, full, value)

    def test_wrong_charges(self):
        for full in no_integers() + [0, -1]:
            self.told(InvalidSize, "full", served_paper, ROW, full)
            self.told(InvalidSize, "full", served_holds, ROW, full, None)
        self.assertEqual(served_paper(ROW, 10 ** 9)[0], "served")


if __name__ == "__main__":
    unittest.main()
