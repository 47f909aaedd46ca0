"""[69]: detours, and the streets by which the greatest one is least."""

import itertools
import random
import unittest

from nobodymeets.detours import best_streets, detour_holds, greatest_detour
from nobodymeets.errors import InvalidHall, InvalidSize, Refused
from nobodymeets.halls import Hall, read_drawing
from tests.hall_worlds import free_hall, random_hall, random_halls, steps
from tests.helpers import PromiseCase, changed_a_little, is_below, is_int, is_rising, is_tupled, no_integers, odd_values
from tests.test_streets import bridges, is_strong, ties_of, two_way

SQUARE = read_drawing("..\n..")


def without(hall, ways):
    return Hall(hall.kinds, [way for way in hall.ways if way not in ways], hall.places)


def detour(hall, marked):
    """[69]: straight from the document."""
    worst = (0, 0, 0)
    for one, other in itertools.product(range(hall.cells), repeat=2):
        plain = steps(hall, one, other)
        if plain is not None:
            longer = steps(marked, one, other)
            if longer is None:
                return (None, one, other)
            if longer - plain > worst[0]:
                worst = (longer - plain, one, other)
    return worst


def open_ties(hall):
    return [tie for tie in two_way(hall) if tie not in bridges(ties_of(hall))]


def all_struck(hall):
    """All ways of striking one way of each two-way tie that is no bridge, by which all cells reach each other."""
    for struck in itertools.product(*[(tie[::-1], tie) for tie in open_ties(hall)]):
        if is_strong(without(hall, struck)):
            yield tuple(sorted(struck))


def is_tree(hall, least, value, struck=()):
    """Whether places from above are a tree; what is left of them, or None."""
    ties = open_ties(hall)
    if not value or not isinstance(value[0], tuple):
        return None
    if value[0] == ():
        if len(struck) == len(ties):
            return None
        left = is_tree(hall, least, value[1:], struck + (ties[len(struck)][::-1],))
        return None if left is None else is_tree(hall, least, left, struck + (ties[len(struck)],))
    if len(value[0]) != 2 or not all(is_below(cell, hall.cells) for cell in value[0]):
        return None
    longer = steps(without(hall, struck), *value[0])
    if longer is not None and longer - steps(hall, *value[0]) < least:
        return None
    return value[1:]


def is_paper(hall, value):
    if not isinstance(value, tuple) or len(value) != 4 or value[0] != "best":
        return False
    _, least, struck, tree = value
    if not isinstance(struck, tuple) or not isinstance(tree, tuple) or not is_int(least):
        return False
    for way in struck:
        if not isinstance(way, tuple) or len(way) != 2 or not all(is_below(cell, hall.cells) for cell in way):
            return False
    if not is_rising(struck) or struck not in list(all_struck(hall)):
        return False
    return detour(hall, without(hall, struck))[0] == least and is_tree(hall, least, tree) == ()


class DetourTest(PromiseCase):
    def test_detours(self):
        hall = read_drawing("...")
        self.tells((0, 0, 0), greatest_detour, hall, hall)
        self.tells((None, 1, 0), greatest_detour, hall, read_drawing(">>."))
        self.tells((2, 0, 1), greatest_detour, SQUARE, without(SQUARE, [(0, 1)]))
        self.tells((2, 0, 2), greatest_detour, SQUARE, free_hall(4, [(0, 1), (1, 3), (3, 2), (2, 0)]))
        # Only cells that are reached in the hall count, and ways more are no detours.
        self.tells((0, 0, 0), greatest_detour, read_drawing(">>."), hall)
        self.tells((0, 0, 0), greatest_detour, read_drawing("."), read_drawing("H"))

    def test_detours_by_chance(self):
        chance = random.Random(1)
        seen = set()
        for _ in range(500):
            hall = random_hall(chance, 5)
            marked = without(hall, [way for way in hall.ways if chance.random() < 0.2])
            told = greatest_detour(hall, marked)
            seen.add(told[0])
            self.assertEqual(told, detour(hall, marked))
        self.assertTrue({None, 0, 1, 2} <= seen)

    def test_wrong_ones(self):
        for value in odd_values():
            if not isinstance(value, Hall):
                self.told(InvalidHall, -1, greatest_detour, value, None)
                self.told(InvalidHall, -1, greatest_detour, SQUARE, value)
        self.told(Refused, -1, greatest_detour, SQUARE, read_drawing("..."))


class BestTest(PromiseCase):
    def test_example(self):
        paper = best_streets(SQUARE, 31)
        self.assertEqual(paper[:2], ("best", 2))
        self.assertTrue(is_paper(SQUARE, paper))

    def test_halls_with_nothing_to_strike(self):
        for hall in (read_drawing("."), read_drawing("..."), free_hall(3, [(0, 1), (1, 2), (2, 0)])):
            paper = best_streets(hall, 1)
            self.assertEqual(paper[:3], ("best", 0, ()))
            self.assertEqual(len(paper[3]), 1)
            self.assertTrue(is_paper(hall, paper))
        # Any pair, and one cell twice, has a detour of 0.
        for pair in itertools.product(range(3), repeat=2):
            self.holds_just_if(True, detour_holds, read_drawing("..."), ("best", 0, (), (pair,)))
        self.holds_just_if(False, detour_holds, read_drawing("..."), ("best", 0, (), ()))
        self.holds_just_if(False, detour_holds, read_drawing("..."), ("best", 0, (), ((), (0, 0), (0, 0))))

    def test_as_many_nodes_as_do_and_one_less(self):
        for hall in (SQUARE, read_drawing("...\n..."), free_hall(3, list(itertools.permutations(range(3), 2)))):
            ties = len(open_ties(hall))
            paper = best_streets(hall, 2 ** (ties + 1) - 1)
            self.assertEqual(paper[0], "best")
            least = len(paper[3])
            self.assertEqual(best_streets(hall, least), paper)
            for nodes in range(1, least):
                told = best_streets(hall, nodes)
                self.assertEqual((told[0], len(told)), ("bound", 3))
                self.assertIn(told[2], list(all_struck(hall)))
                self.assertEqual(told[1], detour(hall, without(hall, told[2]))[0])
                self.assertGreaterEqual(told[1], paper[1])
                self.holds_just_if(False, detour_holds, hall, told)

    def test_halls_by_chance(self):
        seen = set()
        for hall in random_halls(random.Random(2), 900, 6):
            if not is_strong(hall):
                self.told(Refused, -1, best_streets, hall, 1)
                self.told(Refused, -1, detour_holds, hall, None)
                continue
            ties = len(open_ties(hall))
            if ties > 5:
                continue
            paper = best_streets(hall, 2 ** (ties + 1) - 1)
            self.assertTrue(is_tupled(paper) and is_paper(hall, paper), (hall.ways, paper))
            self.holds_just_if(True, detour_holds, hall, paper)
            least = min(detour(hall, without(hall, struck))[0] for struck in all_struck(hall))
            seen.add(least)
            self.assertEqual(paper[1], least)
            self.assertLessEqual(least, max(0, hall.cells - 2))
        self.assertTrue({0, 1, 2} <= seen, seen)

    def test_papers_changed_a_little(self):
        chance = random.Random(3)
        count = 0
        while count < 6000:
            hall = random_hall(chance, 4, least=3)
            if is_strong(hall) and 0 < len(open_ties(hall)) < 4:
                for value in changed_a_little(best_streets(hall, 99)):
                    count += 1
                    self.holds_just_if(is_paper(hall, value), detour_holds, hall, value)

    def test_all_small_trees(self):
        hall = free_hall(3, [(0, 1), (1, 0), (1, 2), (2, 0)])
        places = [()] + list(itertools.product(range(3), repeat=2))
        found = 0
        for struck in (((0, 1),), ((1, 0),)):
            for least in range(4):
                for many in range(1, 4):
                    for tree in itertools.product(places, repeat=many):
                        value = ("best", least, struck, tree)
                        found += is_paper(hall, value)
                        self.holds_just_if(is_paper(hall, value), detour_holds, hall, value)
        self.assertGreater(found, 0)

    def test_odd_papers(self):
        paper = best_streets(SQUARE, 31)
        for value in odd_values():
            for item in (value, ("best", value) + paper[2:], paper[:2] + (value,) + paper[3:], paper[:3] + (value,),
                         paper[:3] + ((value,) + paper[3][1:],)):
                self.holds_just_if(is_paper(SQUARE, item), detour_holds, SQUARE, item)

    def test_wrong_ones(self):
        for value in odd_values():
            if not isinstance(value, Hall):
                self.told(InvalidHall, -1, best_streets, value, None)
                self.told(InvalidHall, -1, detour_holds, value, None)
        for nodes in no_integers() + [0, -1]:
            self.told(InvalidSize, "nodes", best_streets, SQUARE, nodes)
            self.told(InvalidSize, "nodes", best_streets, read_drawing(">>."), nodes)


if __name__ == "__main__":
    unittest.main()
