"""[15], [16]: open halls, and errands in them."""

import itertools
import random
import unittest

from nobodymeets.court import court_holds, court_paper, end_cells, errand_most, errand_way, is_open
from nobodymeets.errors import InvalidHall, InvalidLot, InvalidRobots, InvalidSize, NoRobot
from nobodymeets.halls import Hall, lose_cells, read_drawing
from tests.hall_worlds import (ends_in, has_leg, is_free, is_row_of_ways, led_to, random_halls, steps, subsets,
                               tied_hall)
from tests.helpers import (PromiseCase, changed_a_little, is_below, is_int, is_rising, is_tupled, no_integers,
                           odd_values, same)

CROSS = read_drawing("#P#\nH.S\n#.#\n#C#")


def pairs_in(hall):
    return list(itertools.permutations(ends_in(hall), 2))


def is_leg_of(hall, one, other, value):
    return (is_row_of_ways(hall, value) and len(value) > 1 and (value[0], value[-1]) == (one, other)
            and all(is_free(hall, cell) for cell in value[1:-1]))


def is_paper(hall, value):
    """[15]: whether a value is a paper, straight from the document."""
    if not isinstance(value, tuple) or not value or not isinstance(value[0], str):
        return False
    if value[0] == "open" and len(value) == 2:
        pairs = pairs_in(hall)
        return (isinstance(value[1], tuple) and len(value[1]) == len(pairs)
                and all(is_leg_of(hall, *pair, leg) for pair, leg in zip(pairs, value[1])))
    if value[0] != "barred" or len(value) != 4:
        return False
    one, other, lot = value[1:]
    if not all(is_below(cell, hall.cells) and not is_free(hall, cell) for cell in (one, other)) or one == other:
        return False
    if not isinstance(lot, tuple) or not all(is_below(cell, hall.cells) and is_free(hall, cell) for cell in lot):
        return False
    out = [b for a, b in hall.ways if (a == one or a in lot) and b not in lot]
    return is_rising(lot) and not any(is_free(hall, cell) or cell == other for cell in out)


class CourtTest(PromiseCase):
    def test_examples(self):
        hall = read_drawing("P.H\n#.#\n#S#")
        self.assertEqual(is_open(hall), True)
        self.tells(("barred", 0, 3, (1,)), court_paper, read_drawing("P.HS"))

    def test_halls_without_ends_with_one_and_with_two(self):
        for hall in (read_drawing(".."), read_drawing("."), read_drawing("P"), read_drawing("..#.P")):
            self.tells(("open", ()), court_paper, hall)
            self.holds_just_if(True, is_open, hall)
            self.holds_just_if(True, court_holds, hall, ("open", ()))
            self.holds_just_if(False, court_holds, hall, ("open", ((0, 1),)))
        self.tells((), end_cells, read_drawing(".."))
        apart = read_drawing("P.#.H")
        self.tells((0, 3), end_cells, apart)
        self.tells(("barred", 0, 3, (1,)), court_paper, apart)
        self.holds_just_if(False, is_open, apart)
        self.tells(("barred", 0, 1, ()), court_paper, read_drawing("P#H"))
        self.tells(("open", ((0, 1), (1, 0))), court_paper, read_drawing("PH"))

    def test_legs_do_not_go_through_ends(self):
        self.tells(("barred", 0, 2, ()), court_paper, read_drawing("PHS"))
        self.holds_just_if(False, is_open, read_drawing("P.C.H"))
        self.holds_just_if(True, is_open, read_drawing("P.C.H\n#...#"))

    def test_one_way(self):
        hall = read_drawing("P>H")
        self.tells(("barred", 2, 0, (1,)), court_paper, hall)
        self.tells(("barred", 1, 0, ()), court_paper, Hall(("park", "shelf"), [(0, 1)]))
        self.tells(("barred", 0, 1, ()), court_paper, Hall(("park", "shelf"), [(1, 0)]))
        round_about = read_drawing("P>H\n^#v\n.<.")
        self.assertEqual(court_paper(round_about), ("open", ((0, 1, 2), (2, 4, 7, 6, 5, 3, 0))))

    def test_each_kind_but_free_is_an_end(self):
        self.tells((0, 1, 3, 5), end_cells, CROSS)
        self.assertTrue(is_open(CROSS))
        self.assertEqual(len(court_paper(CROSS)[1]), 12)

    def test_halls_by_chance(self):
        chance = random.Random(1)
        kinds = ("free", "free", "park", "shelf", "charger", "station")
        for hall in random_halls(chance, 700, 7, kinds):
            self.check_paper(hall)

    def check_paper(self, hall):
        ends = ends_in(hall)
        self.tells(tuple(ends), end_cells, hall)
        barred = [pair for pair in pairs_in(hall) if not has_leg(hall, *pair)]
        paper = court_paper(hall)
        self.holds_just_if(barred == [], is_open, hall)
        self.assertTrue(is_tupled(paper) and is_paper(hall, paper), (hall.kinds, hall.ways, paper))
        self.holds_just_if(True, court_holds, hall, paper)
        if barred:
            lot = led_to(hall, [barred[0][0]], lambda cell: is_free(hall, cell))
            expected = ("barred",) + barred[0] + (tuple(sorted(cell for cell in lot if is_free(hall, cell))),)
            self.assertTrue(same(paper, expected), (paper, expected))
        else:
            self.assertEqual(paper[0], "open")
            for leg in paper[1]:
                self.assertEqual(len(set(leg)), len(leg))

    def test_just_one_of_both(self):
        chance = random.Random(2)
        for hall in random_halls(chance, 120, 4, ("free", "park", "shelf")):
            cells = range(hall.cells)
            opened = [leg for leg in subsets_rows(hall)]
            held = set()
            for one, other in itertools.product(cells, repeat=2):
                for lot in subsets(cells):
                    value = ("barred", one, other, lot)
                    self.holds_just_if(is_paper(hall, value), court_holds, hall, value)
                    if is_paper(hall, value):
                        held.add("barred")
            legs = tuple(next((leg for leg in opened if is_leg_of(hall, *pair, leg)), None) for pair in pairs_in(hall))
            self.holds_just_if(None not in legs, court_holds, hall, ("open", legs))
            if None not in legs:
                held.add("open")
            self.assertEqual(len(held), 1)

    def test_papers_changed_a_little(self):
        chance = random.Random(3)
        for hall in list(random_halls(chance, 60, 5)) + [read_drawing("P.HS"), read_drawing("P.H\n#.#\n#S#")]:
            for value in changed_a_little(court_paper(hall)):
                self.holds_just_if(is_paper(hall, value), court_holds, hall, value)

    def test_any_legs_any_pair_any_lot(self):
        hall = read_drawing("P..H")
        for value, expected in ((("open", ((0, 1, 2, 3), (3, 2, 1, 0))), True),
                                (("open", ((0, 1, 2, 1, 2, 3), (3, 2, 1, 0))), True),
                                (("open", ((0, 1, 0, 1, 2, 3), (3, 2, 1, 0))), False),
                                (("open", ((3, 2, 1, 0), (0, 1, 2, 3))), False), (("open", ((0, 1, 2, 3),)), False),
                                (("open", [(0, 1, 2, 3), (3, 2, 1, 0)]), False), (("open", ()), False),
                                (("open", ((0, 1, 2, 3), (3, 2, 1, 0)), ()), False),
                                (["open", ((0, 1, 2, 3), (3, 2, 1, 0))], False)):
            self.holds_just_if(expected, court_holds, hall, value)
        # Legs through an end at their first step or their last one are none.
        three = tied_hall("ppp..", [(0, 1), (1, 2), (0, 3), (3, 2), (1, 3), (1, 4)])
        legs = ((0, 1), (0, 3, 2), (1, 0), (1, 2), (2, 3, 0), (2, 1))
        for leg, expected in (((0, 3, 2), True), ((0, 1, 2), False), ((0, 3, 1, 2), False), ((0, 1, 3, 2), False),
                              ((0, 3, 2, 3, 2), False), ((0, 3), False), ((0,), False)):
            self.holds_just_if(expected, court_holds, three, ("open", legs[:1] + (leg,) + legs[2:]))
        apart = read_drawing("P.#.H#C.#.")
        for value, expected in ((("barred", 0, 3, (1,)), True), (("barred", 0, 3, (1, 2)), False),
                                (("barred", 0, 4, (1,)), True), (("barred", 3, 0, (2,)), True), (("barred", 3, 0, ()), False),
                                (("barred", 0, 3, (1, 5)), True), (("barred", 0, 3, (1, 5, 6)), True),
                                (("barred", 0, 3, (5, 1)), False), (("barred", 0, 3, (1, 1)), False),
                                (("barred", 0, 3, (1, 2, 3)), False), (("barred", 0, 0, (1,)), False),
                                (("barred", 1, 3, (1,)), False), (("barred", 0, 5, (1,)), False),
                                (("barred", 0, 3, [1]), False), (("barred", False, 3, (1,)), False),
                                (("barred", 0, 3, (0, 1)), False), (("barred", 4, 3, (5, 6)), True)):
            self.holds_just_if(expected, court_holds, apart, value)
        # A lot through which the other end can be come to bars nothing.
        self.holds_just_if(False, court_holds, hall, ("barred", 0, 3, (1, 2)))

    def test_wrong_halls(self):
        for value in odd_values():
            if not isinstance(value, Hall):
                for call, more in ((end_cells, ()), (court_paper, ()), (is_open, ()), (court_holds, (None,)),
                                   (errand_way, (None, None, None)), (errand_most, (None,))):
                    self.told(InvalidHall, -1, call, value, *more)


def subsets_rows(hall):
    """All rows of unlike cells along ways."""
    for many in range(1, hall.cells + 1):
        for row in itertools.permutations(range(hall.cells), many):
            if is_row_of_ways(hall, row):
                yield row


class ErrandTest(PromiseCase):
    def test_ways(self):
        self.tells((1,), errand_way, CROSS, (1,), 0, ())
        self.tells((0, 2, 1), errand_way, CROSS, (0,), 0, [1])
        self.tells((0, 2, 1, 2, 0), errand_way, CROSS, [0, 5], 0, (1, 0))
        self.tells((5, 4, 2, 3, 2, 1, 2, 4, 5), errand_way, CROSS, [0, 5], 1, (3, 1, 5))

    def test_robots_own_place(self):
        self.told(InvalidLot, 0, errand_way, CROSS, (0, 5), 0, (0,))
        self.told(InvalidLot, 1, errand_way, CROSS, (0, 5), 0, (1, 1))
        self.told(InvalidLot, 0, errand_way, CROSS, (0, 5), 0, (5,))
        self.told(InvalidLot, 2, errand_way, CROSS, (0, 5), 0, (1, 3, 5, 0))
        self.tells((0, 2, 3, 2, 0), errand_way, CROSS, (0, 5), 0, (3, 0))

    def test_wrong_robots(self):
        for robots, at in ((None, -1), ("0", -1), ((2,), 0), ((0, 4), 1), ((0, 0), 1), ((1, 0, 1), 2), ((True,), 0),
                           ((0, 6), 1), ((-1,), 0), ((0, None), 1), (((0,),), 0)):
            self.told(InvalidRobots, at, errand_way, CROSS, robots, None, None)
        for robot in no_integers() + [2, -1]:
            self.told(NoRobot, robot, errand_way, CROSS, (0, 1), robot, None)
        self.told(NoRobot, 0, errand_way, CROSS, (), 0, ())

    def test_wrong_errands(self):
        for errand, at in ((None, -1), ("3", -1), (3, -1), ((2,), 0), ((3, 4), 1), ((3, None), 1), ((3, True), 1), ((6,), 0),
                           ((-1,), 0), (((3,),), 0), ((3, 5, 5), 2), ((1,), 0), ((3, 1), 1)):
            self.told(InvalidLot, at, errand_way, CROSS, (0, 1), 0, errand)

    def test_errands_by_chance(self):
        chance = random.Random(4)
        for hall in random_halls(chance, 500, 7):
            ends = ends_in(hall)
            if not ends:
                continue
            robots = chance.sample(ends, chance.randint(1, len(ends)))
            robot = chance.randrange(len(robots))
            choices = [end for end in ends if end not in robots or end == robots[robot]]
            errand = []
            for _ in range(chance.randint(0, 4)):
                more = [end for end in choices if end != (errand or [robots[robot]])[-1]]
                if more:
                    errand.append(chance.choice(more))
            self.check_errand(hall, robots, robot, errand)

    def check_errand(self, hall, robots, robot, errand):
        stops = [robots[robot]] + errand
        counts = [steps(hall, one, other, lambda cell: is_free(hall, cell)) for one, other in zip(stops, stops[1:])]
        way = errand_way(hall, robots, robot, errand)
        if None in counts:
            self.assertIsNone(way)
            return
        self.assertTrue(is_row_of_ways(hall, way) and way[0] == robots[robot], way)
        at = 0
        for one, count in zip(stops[1:], counts):
            self.assertTrue(all(is_free(hall, cell) for cell in way[at + 1:at + count]))
            at += count
            self.assertEqual(way[at], one)
        self.assertEqual(at, len(way) - 1)
        self.assertLessEqual(at, errand_most(hall, len(errand)))

    def test_open_just_if_all_errands_can_be_gone(self):
        chance = random.Random(5)
        for hall in random_halls(chance, 150, 5, ("free", "free", "park", "shelf", "station")):
            ends = ends_in(hall)
            ways = []
            for robots in subsets(ends, 1):
                for robot in range(len(robots)):
                    for end in ends:
                        if end not in robots:
                            ways.append(errand_way(hall, robots, robot, (end,)))
            self.holds_just_if(None not in ways, is_open, hall)
            if None in ways:
                _, one, other, _ = court_paper(hall)
                self.tells(None, errand_way, hall, (one,), 0, (other,))

    def test_most_starts(self):
        self.tells(6, errand_most, CROSS, 2)
        self.tells(0, errand_most, CROSS, 0)
        self.tells(3 * 10 ** 9, errand_most, CROSS, 10 ** 9)
        for many in no_integers() + [-1]:
            self.told(InvalidSize, "ends", errand_most, CROSS, many)
        row = tied_hall("p...h", [(0, 1), (1, 2), (2, 3), (3, 4)])
        self.assertEqual(len(errand_way(row, (0,), 0, (4, 0, 4))) - 1, errand_most(row, 3))

    def test_lost_cells_bar_errands(self):
        row = lose_cells(tied_hall("p..h", [(0, 1), (1, 2), (2, 3)]), (1,))
        self.tells(None, errand_way, row, (0,), 0, (3, 0))
        self.assertTrue(is_int(errand_most(row, 1)))


if __name__ == "__main__":
    unittest.main()
