"""[68]: halls whose cells all reach each other, and ways that can be struck."""

import itertools
import random
import unittest

from nobodymeets.court import court_paper, is_open
from nobodymeets.errors import InvalidHall
from nobodymeets.halls import Hall, read_drawing
from nobodymeets.streets import (hall_bridges, is_strong_hall, narrow_ties, street_hall, strong_holds, strong_paper,
                                 thinned_hall, two_way_ties)
from tests.hall_worlds import ends_in, free_hall, has_leg, is_free, is_row_of_ways, random_hall, random_halls, tied_hall
from tests.helpers import PromiseCase, changed_a_little, is_below, is_rising, is_tupled, odd_values, same


def reached(hall, cell):
    found, left = {cell}, [cell]
    while left:
        one = left.pop()
        for a, b in hall.ways:
            if a == one and b not in found:
                found.add(b)
                left.append(b)
    return found


def is_strong(hall):
    return all(len(reached(hall, cell)) == hall.cells for cell in range(hall.cells))


def ties_of(hall):
    return sorted({(min(way), max(way)) for way in hall.ways})


def do_hang(ties, one, other):
    found, left = {one}, [one]
    while left:
        cell = left.pop()
        for a, b in ties:
            for near, far in ((a, b), (b, a)):
                if near == cell and far not in found:
                    found.add(far)
                    left.append(far)
    return other in found


def bridges(ties):
    """The ties that are on no ring: without each its cells do not hang together."""
    return tuple(tie for tie in ties if not do_hang([other for other in ties if other != tie], *tie))


def two_way(hall):
    return tuple(tie for tie in ties_of(hall) if tie in hall.ways and tie[::-1] in hall.ways)


def narrow(hall):
    """[68]: two-way ties on no ring of ties among the cells that reach each other."""
    found = []
    for tie in two_way(hall):
        lot = {cell for cell in reached(hall, tie[0]) if tie[0] in reached(hall, cell)}
        if tie in bridges([other for other in ties_of(hall) if set(other) <= lot]):
            found.append(tie)
    return tuple(found)


def thinned(hall, order=None):
    """[68]: the ways that are left, tie by tie."""
    ways = list(hall.ways)
    before = [reached(hall, cell) for cell in range(hall.cells)]
    for lesser, greater in two_way(hall) if order is None else order:
        for way in ((greater, lesser), (lesser, greater)):
            less = Hall(hall.kinds, [other for other in ways if other != way])
            if [reached(less, cell) for cell in range(hall.cells)] == before:
                ways.remove(way)
                break
    return tuple(sorted(ways))


def is_paper(hall, value):
    if not isinstance(value, tuple) or len(value) != 2 or not isinstance(value[0], str):
        return False
    word, cells = value
    if not isinstance(cells, tuple) or not cells or not all(is_below(cell, hall.cells) for cell in cells):
        return False
    if word == "round":
        if hall.cells == 1:
            return cells == (0,)
        return set(cells) == set(range(hall.cells)) and is_row_of_ways(hall, cells + cells[:1])
    if word != "lot" or not is_rising(cells) or len(cells) == hall.cells:
        return False
    return not any(one in cells and other not in cells for one, other in hall.ways)


class StrongTest(PromiseCase):
    def test_small_halls(self):
        self.tells(("round", (0,)), strong_paper, read_drawing("."))
        self.tells(("round", (0, 1)), strong_paper, read_drawing(".."))
        self.tells(("lot", (1, 2)), strong_paper, read_drawing(">>."))
        self.assertEqual(strong_paper(free_hall(3, [(0, 1), (1, 2), (2, 0)])), ("round", (0, 1, 2)))
        for value, expected in ((("round", (0,)), True), (("round", (0, 0)), False), (("round", ()), False),
                                (("lot", (0,)), False), (("lot", ()), False), (("round", (False,)), False)):
            self.holds_just_if(expected, strong_holds, read_drawing("."), value)

    def test_halls_by_chance(self):
        kinds = set()
        for hall in random_halls(random.Random(1), 900, 6):
            paper = strong_paper(hall)
            kinds.add(paper[0])
            self.assertTrue(is_tupled(paper) and is_paper(hall, paper))
            self.assertEqual(paper[0] == "round", is_strong(hall))
            self.assertIs(is_strong_hall(hall), is_strong(hall))
            self.holds_just_if(True, strong_holds, hall, paper)
            if paper[0] == "round":
                self.assertLessEqual(len(paper[1]), max(1, hall.cells * (hall.cells - 1)))
        self.assertEqual(kinds, {"round", "lot"})

    def test_the_longest_round(self):
        # Each next cell but the one behind is far round the ring.
        hall = free_hall(7, [(cell, (cell + 6) % 7) for cell in range(7)])
        paper = strong_paper(hall)
        self.assertTrue(is_paper(hall, paper))
        self.assertEqual(len(paper[1]), 7 * 6)

    def test_papers_changed_a_little(self):
        for hall in random_halls(random.Random(2), 150, 4):
            for value in itertools.chain(changed_a_little(strong_paper(hall)), odd_values()):
                self.holds_just_if(is_paper(hall, value), strong_holds, hall, value)

    def test_all_lots_and_short_rows(self):
        for hall in random_halls(random.Random(3), 60, 4):
            for many in range(hall.cells + 2):
                for cells in itertools.product(range(hall.cells), repeat=many):
                    for word in ("lot", "round"):
                        self.holds_just_if(is_paper(hall, (word, cells)), strong_holds, hall, (word, cells))


class TieTest(PromiseCase):
    def test_bridges_and_ties(self):
        hall = free_hall(5, [(0, 1), (1, 2), (2, 0), (0, 2), (2, 3), (3, 4), (4, 3)])
        self.tells(((2, 3), (3, 4)), hall_bridges, hall)
        self.tells(((0, 2), (3, 4)), two_way_ties, hall)
        self.tells(((3, 4),), narrow_ties, hall)
        self.tells((), hall_bridges, read_drawing("."))

    def test_a_ring_through_cells_that_are_not_reached_back(self):
        # The tie of 0 and 1 is on a ring of ties, but not among the cells that reach each other.
        hall = free_hall(3, [(0, 1), (1, 0), (0, 2), (1, 2)])
        self.tells((), hall_bridges, hall)
        self.tells(((0, 1),), narrow_ties, hall)
        self.assertEqual(thinned_hall(hall).ways, hall.ways)

    def test_ties_by_chance(self):
        for hall in random_halls(random.Random(4), 600, 6):
            self.tells(bridges(ties_of(hall)), hall_bridges, hall)
            self.tells(two_way(hall), two_way_ties, hall)
            self.tells(narrow(hall), narrow_ties, hall)


class ThinnedTest(PromiseCase):
    def test_example(self):
        hall = read_drawing("..\n..")
        self.assertEqual(thinned_hall(hall).ways, ((0, 1), (1, 3), (2, 0), (3, 2)))

    def test_kinds_and_places_are_kept(self):
        hall = read_drawing("P.\nHS")
        for call in (thinned_hall, street_hall):
            told = call(hall)
            self.assertEqual((told.kinds, told.places), (hall.kinds, hall.places))
        self.assertEqual(thinned_hall(hall).ways, ((0, 1), (1, 3), (2, 0), (3, 2)))
        self.assertEqual(street_hall(hall), hall)

    def test_ties_that_may_be_struck_either_way(self):
        # The way to the lesser cell is struck where it can be; else its opposite.
        hall = free_hall(3, [(0, 1), (1, 0), (1, 2), (2, 0)])
        self.assertEqual(thinned_hall(hall).ways, ((0, 1), (1, 2), (2, 0)))
        hall = free_hall(3, [(0, 1), (1, 0), (0, 2), (2, 1)])
        self.assertEqual(thinned_hall(hall).ways, ((0, 2), (1, 0), (2, 1)))

    def test_halls_by_chance(self):
        chance = random.Random(5)
        for hall in random_halls(chance, 400, 6):
            told = thinned_hall(hall)
            self.assertEqual(told.ways, thinned(hall))
            self.assertEqual(told.kinds, hall.kinds)
            self.assertEqual(two_way(told), narrow(hall))
            # Just the narrow ties stay two-way, whatever the order of the ties.
            order = list(two_way(hall))
            chance.shuffle(order)
            self.assertEqual(two_way(Hall(hall.kinds, thinned(hall, order))), narrow(hall))

    def test_a_two_way_hall_can_be_made_one_way_just_if_it_has_no_bridge(self):
        chance = random.Random(6)
        for _ in range(200):
            ties = [tie for tie in itertools.combinations(range(5), 2) if chance.random() < 0.6]
            hall = tied_hall(".....", ties)
            if is_strong(hall):
                told = thinned_hall(hall)
                self.assertTrue(is_strong(told))
                self.assertEqual(two_way_ties(told) == (), hall_bridges(hall) == ())

    def test_the_same_pairs_of_ends_have_legs_in_a_street_hall(self):
        chance = random.Random(7)
        fewer = 0
        for _ in range(500):
            hall = random_hall(chance, 7, kinds=("free", "free", "free", "park", "shelf"))
            told = street_hall(hall)
            fewer += len(told.ways) < len(hall.ways)
            between = Hall(hall.kinds, [way for way in hall.ways if is_free(hall, way[0]) and is_free(hall, way[1])])
            left = thinned(between)
            self.assertTrue(same(told.ways, tuple(way for way in hall.ways if way in left or way not in between.ways)))
            for one, other in itertools.permutations(ends_in(hall), 2):
                self.assertEqual(has_leg(hall, one, other), has_leg(told, one, other))
            self.assertIs(is_open(told), is_open(hall))
            self.assertEqual(court_paper(told)[0], court_paper(hall)[0])
        self.assertGreater(fewer, 30)

    def test_wrong_halls(self):
        for call, more in ((strong_paper, ()), (is_strong_hall, ()), (strong_holds, (None,)), (hall_bridges, ()),
                           (two_way_ties, ()), (narrow_ties, ()), (thinned_hall, ()), (street_hall, ())):
            for value in odd_values():
                if not isinstance(value, Hall):
                    self.told(InvalidHall, -1, call, value, *more)


if __name__ == "__main__":
    unittest.main()
