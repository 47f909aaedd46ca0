"""[70]: single ways lifted or turned about, the fewest, and lots that show it."""

import itertools
import random
import unittest

from nobodymeets.errors import InvalidHall, InvalidWays
from nobodymeets.halls import Hall, read_drawing
from nobodymeets.lifted import (lifted_hall, lifted_holds, lifted_paper, single_ways, turned_hall, turning_holds,
                                turning_paper)
from tests.hall_worlds import free_hall, random_halls, subsets
from tests.helpers import (PromiseCase, changed_a_little, is_below, is_rising, is_tupled, listed, no_sequences,
                           odd_values, same)
from tests.test_streets import bridges, is_strong, ties_of

PATH = read_drawing(">>.")


def singles(hall):
    return tuple(way for way in hall.ways if way[::-1] not in hall.ways)


def with_ways(hall, ways):
    return Hall(hall.kinds, ways, hall.places)


def lift(hall, ways):
    return with_ways(hall, hall.ways + tuple(way[::-1] for way in ways))


def turn(hall, ways):
    return with_ways(hall, [way[::-1] if way in ways else way for way in hall.ways])


def together(ties, cell):
    found, left = {cell}, [cell]
    while left:
        one = left.pop()
        for tie in ties:
            if one in tie and sum(tie) - one not in found:
                found.add(sum(tie) - one)
                left.append(sum(tie) - one)
    return tuple(sorted(found))


def is_lot(hall, value):
    if not isinstance(value, tuple) or not all(is_below(cell, hall.cells) for cell in value) or not is_rising(value):
        return False
    return 1 <= len(value) < hall.cells


def are_ways(hall, value):
    if not isinstance(value, tuple) or not all(isinstance(way, tuple) and len(way) == 2 for way in value):
        return False
    if not all(is_below(cell, hall.cells) for way in value for cell in way):
        return False
    return all(way in singles(hall) for way in value) and is_rising(value)


def are_lots(hall, many, value):
    if not isinstance(value, tuple) or len(value) != many or not all(is_lot(hall, lot) for lot in value):
        return False
    for lot in value:
        if any(one in lot and other not in lot for one, other in hall.ways):
            return False
    return all(sum(other in lot and one not in lot for lot in value) <= 1 for one, other in hall.ways)


def is_apart(hall, value):
    return is_lot(hall, value) and not any((one in value) != (other in value) for one, other in hall.ways)


def is_lifted(hall, value):
    """[70]: straight from the document."""
    if not isinstance(value, tuple) or not value or not isinstance(value[0], str):
        return False
    if value[0] == "apart":
        return len(value) == 2 and is_apart(hall, value[1])
    if value[0] != "lifted" or len(value) != 3 or not are_ways(hall, value[1]):
        return False
    return are_lots(hall, len(value[1]), value[2]) and is_strong(lift(hall, value[1]))


def is_turning(hall, value):
    """[70], second paragraph: straight from the document."""
    if not isinstance(value, tuple) or not value or not isinstance(value[0], str):
        return False
    if value[0] == "apart":
        return len(value) == 2 and is_apart(hall, value[1])
    if len(value) != 3:
        return False
    if value[0] == "bridge":
        _, way, lot = value
        if not are_ways(hall, (way,)) or not isinstance(lot, tuple) or not is_lot(hall, lot):
            return False
        return [pair for pair in hall.ways if (pair[0] in lot) != (pair[1] in lot)] == [way] and way[1] in lot
    if value[0] != "turned" or not are_ways(hall, value[1]):
        return False
    return are_lots(hall, len(value[1]), value[2]) and is_strong(turn(hall, value[1]))


def fewest(hall, change):
    for ways in subsets(singles(hall)):
        if is_strong(change(hall, ways)):
            return len(ways)
    return None


def tangled_halls(seed, many, most=6):
    """Halls that hang together, most of their ways single."""
    chance = random.Random(seed)
    while many:
        cells = chance.randint(2, most)
        order = chance.sample(range(cells), cells)
        ways, mixed = [], chance.choice((0, 0.2, 1))
        for one, other in itertools.combinations(range(cells), 2):
            if chance.random() < chance.choice((0.4, 0.7)):
                pair = (order[one], order[other])
                ways.append(pair[::-1] if chance.random() < mixed / 2 else pair)
                if chance.random() < 0.1:
                    ways.append(ways[-1][::-1])
        hall = free_hall(cells, ways)
        if len(together(ties_of(hall), 0)) == cells:
            many -= 1
            yield hall


class WayTest(PromiseCase):
    def test_single_ways(self):
        self.tells(((0, 1),), single_ways, PATH)
        self.tells((), single_ways, read_drawing("..."))
        for hall in random_halls(random.Random(1), 200, 5):
            self.tells(singles(hall), single_ways, hall)
            for ways in itertools.islice(subsets(singles(hall)), 12):
                for call, change in ((lifted_hall, lift), (turned_hall, turn)):
                    told = call(hall, ways[::-1])
                    self.assertEqual(told, change(hall, ways))
                    self.assertEqual(told, call(hall, listed(ways)))
                    self.assertEqual((told.kinds, told.places), (hall.kinds, hall.places))

    def test_halls_with_places(self):
        self.assertEqual(lifted_hall(PATH, [(0, 1)]), read_drawing("..."))
        self.assertEqual(turned_hall(PATH, [(0, 1)]).ways, ((1, 0), (1, 2), (2, 1)))
        self.assertEqual(lifted_hall(PATH, ()), PATH)

    def test_wrong_ways(self):
        for call in (lifted_hall, turned_hall):
            for value in odd_values():
                if not isinstance(value, Hall):
                    self.told(InvalidHall, -1, call, value, None)
            for value in no_sequences():
                self.told(InvalidWays, -1, call, PATH, value)
            for value in odd_values() + [(0, 1), [0, 1], (1, 0), (1, 2), (0, 2), (0, 3), (0, True), (0, 1, 2)]:
                self.told(InvalidWays, 1, call, PATH, ((0, 1), value, None))


class PaperTest(PromiseCase):
    def check(self, hall):
        lifted, turned = lifted_paper(hall), turning_paper(hall)
        self.assertTrue(is_tupled(lifted) and is_lifted(hall, lifted), (hall.ways, lifted))
        self.assertTrue(is_tupled(turned) and is_turning(hall, turned), (hall.ways, turned))
        self.holds_just_if(True, lifted_holds, hall, lifted)
        self.holds_just_if(True, turning_holds, hall, turned)
        for paper in (lifted, turned):
            if paper[0] in ("lifted", "turned"):
                self.assertTrue(is_rising(paper[2]))
        return lifted, turned

    def test_example(self):
        self.tells(("lifted", ((0, 1),), ((1, 2),)), lifted_paper, PATH)
        self.tells(("bridge", (0, 1), (1, 2)), turning_paper, PATH)

    def test_a_hall_without_single_ways(self):
        self.tells(("lifted", (), ()), lifted_paper, read_drawing("..."))
        self.tells(("turned", (), ()), turning_paper, read_drawing("..."))
        self.tells(("lifted", (), ()), lifted_paper, read_drawing("."))
        self.tells(("turned", (), ()), turning_paper, read_drawing("."))

    def test_a_hall_that_falls_apart(self):
        hall = free_hall(5, [(0, 3), (1, 2), (2, 4)])
        self.tells(("apart", (0, 3)), lifted_paper, hall)
        self.tells(("apart", (0, 3)), turning_paper, hall)
        for lot, expected in (((0, 3), True), ((1, 2, 4), True), ((0, 1, 2, 3, 4), False), ((), False), ((0, 1), False),
                              ((3, 0), False), ([0, 3], False)):
            self.holds_just_if(expected, lifted_holds, hall, ("apart", lot))
            self.holds_just_if(expected, turning_holds, hall, ("apart", lot))
        # A bridge is one in any hall, and of any lot into which it goes.
        for lot, expected in (((3,), True), ((1, 2, 3, 4), True), ((0, 3), False), ((2, 4), False), ((1, 3), False)):
            self.holds_just_if(expected, turning_holds, hall, ("bridge", (0, 3), lot))

    def test_a_bridge_that_is_a_single_way(self):
        hall = free_hall(6, [(0, 1), (1, 2), (2, 0), (2, 3), (3, 4), (4, 5), (5, 3)])
        lifted, turned = self.check(hall)
        self.assertEqual(turned, ("bridge", (2, 3), (3, 4, 5)))
        self.assertEqual(lifted[1], ((2, 3),))
        # A bridge that is gone either way bars nothing.
        both = free_hall(6, hall.ways + ((3, 2),))
        self.assertEqual(self.check(both), (("lifted", (), ()), ("turned", (), ())))

    def test_as_many_lots_as_lifted_ways(self):
        # Three go to two: each of the three must be come back to.
        hall = free_hall(5, [(one, other) for one in (0, 1, 2) for other in (3, 4)])
        lifted, turned = self.check(hall)
        self.assertEqual((len(lifted[1]), len(lifted[2]), len(turned[1])), (3, 3, 3))
        hall = free_hall(5, [(other, one) for one in (0, 1, 2) for other in (3, 4)])
        self.assertEqual(len(self.check(hall)[0][1]), 3)
        # All go to one in the middle.
        hall = free_hall(4, [(0, 3), (1, 3), (2, 3)])
        self.assertEqual(len(self.check(hall)[0][1]), 3)

    def test_halls_by_chance(self):
        counts, kinds = {}, set()
        for hall in itertools.chain(tangled_halls(2, 350), random_halls(random.Random(3), 250, 5)):
            lifted, turned = self.check(hall)
            kinds |= {lifted[0], turned[0]}
            ties = ties_of(hall)
            if len(together(ties, 0)) < hall.cells:
                self.assertEqual(lifted, ("apart", together(ties, 0)))
                self.assertEqual(turned, lifted)
                continue
            self.assertEqual(lifted[0], "lifted")
            counts[len(lifted[1])] = counts.get(len(lifted[1]), 0) + 1
            self.assertLessEqual(len(lifted[1]), hall.cells - 1)
            if len(singles(hall)) <= 9:
                self.assertEqual(len(lifted[1]), fewest(hall, lift))
            barred = [way for way in singles(hall) if tuple(sorted(way)) in bridges(ties)]
            if barred:
                left = [tie for tie in ties if tie != tuple(sorted(barred[0]))]
                self.assertTrue(same(turned, ("bridge", barred[0], together(left, barred[0][1]))))
            else:
                self.assertEqual((turned[0], len(turned[1])), ("turned", len(lifted[1])))
                # Any fewest ways to be lifted may be turned about instead.
                self.assertTrue(is_strong(turn(hall, lifted[1])))
        self.assertEqual(kinds, {"apart", "lifted", "bridge", "turned"})
        self.assertTrue({0, 1, 2, 3, 4} <= set(counts), counts)

    def test_a_way_less_makes_at_most_one_more(self):
        for hall in tangled_halls(4, 80, 5):
            both = [way for way in hall.ways if way[::-1] in hall.ways]
            for way in both:
                less = with_ways(hall, [other for other in hall.ways if other != way])
                self.assertIn(len(lifted_paper(less)[1]) - len(lifted_paper(hall)[1]), (0, 1))

    def test_greater_halls(self):
        for hall in tangled_halls(5, 60, 10):
            self.holds_just_if(True, lifted_holds, hall, lifted_paper(hall))
            self.holds_just_if(True, turning_holds, hall, turning_paper(hall))

    def test_papers_changed_a_little(self):
        for hall in itertools.chain(tangled_halls(6, 60, 5), random_halls(random.Random(7), 60, 4)):
            for value in changed_a_little(lifted_paper(hall)):
                self.holds_just_if(is_lifted(hall, value), lifted_holds, hall, value)
            for value in changed_a_little(turning_paper(hall)):
                self.holds_just_if(is_turning(hall, value), turning_holds, hall, value)

    def test_lots_in_any_order_ways_ascending(self):
        hall = free_hall(4, [(0, 1), (1, 2), (2, 3)])
        ways, lots = ((0, 1), (1, 2), (2, 3)), ((1, 2, 3), (2, 3), (3,))
        self.tells(("lifted", ways, lots), lifted_paper, hall)
        for order in itertools.permutations(lots):
            self.holds_just_if(True, lifted_holds, hall, ("lifted", ways, order))
        for order in itertools.permutations(ways):
            self.holds_just_if(order == ways, lifted_holds, hall, ("lifted", order, lots))
        self.holds_just_if(False, lifted_holds, hall, ("lifted", ways, lots[:2] + lots[:1]))
        self.holds_just_if(False, lifted_holds, hall, ("lifted", ways[:2], lots[:2]))
        self.holds_just_if(False, turning_holds, hall, ("turned", ways, lots))

    def test_all_small_papers(self):
        hall = free_hall(3, [(0, 1), (1, 2), (0, 2)])
        for ways in subsets(singles(hall)):
            for lots in itertools.product(list(subsets(range(3))), repeat=len(ways)):
                self.holds_just_if(is_lifted(hall, ("lifted", ways, lots)), lifted_holds, hall, ("lifted", ways, lots))
                self.holds_just_if(is_turning(hall, ("turned", ways, lots)), turning_holds, hall, ("turned", ways, lots))

    def test_odd_papers(self):
        for value in odd_values():
            for call in (lifted_holds, turning_holds):
                if not isinstance(value, Hall):
                    self.told(InvalidHall, -1, call, value, None)
                for item in (value, ("apart", value), ("lifted", value, ((1, 2),)), ("lifted", ((0, 1),), value),
                             ("turned", value, value), ("bridge", value, (1, 2)), ("bridge", (0, 1), value),
                             ("lifted", ((0, 1),), (value,)), ("lifted", (value,), ((1, 2),))):
                    self.holds_just_if(False, call, PATH, item)
        for call in (lifted_paper, turning_paper, single_ways):
            for value in odd_values():
                if not isinstance(value, Hall):
                    self.told(InvalidHall, -1, call, value)


if __name__ == "__main__":
    unittest.main()
