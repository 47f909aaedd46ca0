"""[62], [63]: facts, and who may be told by them where to go."""

import copy
import itertools
import random
import unittest

from nobodymeets.brain import RadioHall
from nobodymeets.errors import InvalidBook, InvalidIndex, InvalidOrders, InvalidRoutes
from nobodymeets.holds import (granted_visits, heard_left, implied_known, joined_known, known_none, may_stand,
                               told_holds)
from tests.helpers import PromiseCase, is_tupled, listed, no_numbers_below, no_sequences, odd_values, same
from tests.test_carried import led_to, live_worlds, moved_worlds
from tests.test_passings import PASSINGS, RING, RING_ROUTES, ROUTES, TWICE, TWICE_ROUTES, all_comings, web, worlds


def all_facts(routes):
    return itertools.product(*[range(len(route)) for route in routes])


def granted(routes, passings, known):
    """[63]: of each row the first visit that is not known to be over."""
    found = []
    for _, row in passings:
        left = [(robot, visit) for robot, visit in row if visit >= known[robot]]
        found.extend(left[:1])
    return tuple(sorted(found))


def implied(routes, passings, known):
    """[63]: all comings that must be there if those that are known are."""
    pairs = web(routes, passings)
    there = set().union(*[led_to(pairs, (robot, number)) for robot, number in enumerate(known) if number], set())
    return tuple(max([visit for one, visit in there if one == robot], default=0) for robot in range(len(routes)))


class FactTest(PromiseCase):
    def test_facts_of_none(self):
        self.tells((0, 0), known_none, ROUTES)
        self.tells((0,), known_none, [[5]])

    def test_visits_heard(self):
        self.tells((1, 0), heard_left, ROUTES, (0, 0), (0, 0))
        self.tells((2, 0), heard_left, ROUTES, [0, 0], [0, 1])
        # Of a last visit, all ahead of it are over, itself never is.
        self.tells((2, 0), heard_left, ROUTES, (0, 0), (0, 2))
        self.tells((0, 0), heard_left, ((5,), (6, 7)), (0, 0), (0, 0))
        # A visit heard twice, and one that was known.
        self.tells((2, 1), heard_left, ROUTES, (2, 1), (0, 1))
        self.tells((2, 1), heard_left, ROUTES, (2, 1), (0, 0))

    def test_what_is_known_is_the_same_in_whatever_order(self):
        chance = random.Random(1)
        for routes, _ in worlds(1, 200):
            visits = [(robot, visit) for robot, route in enumerate(routes) for visit in range(len(route))]
            heard = [chance.choice(visits) for _ in range(chance.randint(0, 6))]
            found = set()
            for _ in range(4):
                chance.shuffle(heard)
                facts = known_none(routes)
                for visit in heard + heard[:2]:
                    facts = heard_left(routes, facts, visit)
                found.add(facts)
            expected = tuple(max([min(visit + 1, len(route) - 1) for one, visit in heard if one == robot], default=0)
                             for robot, route in enumerate(routes))
            self.assertEqual(found, {expected})

    def test_joined(self):
        self.tells((2, 1), joined_known, ROUTES, (2, 0), [0, 1])
        for facts in itertools.product(list(all_facts(ROUTES)), repeat=2):
            self.tells(tuple(max(pair) for pair in zip(*facts)), joined_known, ROUTES, *facts)

    def test_wrong_facts(self):
        calls = ((heard_left, (), (None,)), (joined_known, (), (None,)), (granted_visits, (PASSINGS,), ()),
                 (told_holds, (PASSINGS,), ()), (implied_known, (PASSINGS,), ()), (may_stand, (PASSINGS,), (None,)))
        for call, ahead, behind in calls:
            for value in no_sequences() + [(), (0,), (0, 0, 0), "00"]:
                self.told(InvalidBook, -1, call, ROUTES, *ahead, value, *behind)
            for value in no_numbers_below(3):
                self.told(InvalidBook, 1, call, ROUTES, *ahead, (2, value), *behind)
                self.told(InvalidBook, 0, call, ROUTES, *ahead, (value, None), *behind)
        self.told(InvalidBook, 1, joined_known, ROUTES, (0, 0), (0, 3))
        for value in odd_values() + [(0, 3), (2, 0), (0, -1), (0, True), (0,), (0, 0, 0)]:
            if value != (0, 0):
                self.told(InvalidIndex, -1, heard_left, ROUTES, (0, 0), value)
        for value in no_numbers_below(2):
            self.told(InvalidIndex, -1, may_stand, ROUTES, PASSINGS, (0, 0), value)
        for call, many in ((known_none, 0), (heard_left, 2), (joined_known, 2), (granted_visits, 2), (told_holds, 2),
                           (implied_known, 2), (may_stand, 3)):
            self.told(InvalidRoutes, -1, call, None, *[None] * many)
            self.told(InvalidRoutes, 0, call, ((0, 0), None), *[None] * many)
        for call, many in ((granted_visits, 1), (told_holds, 1), (implied_known, 1), (may_stand, 2)):
            self.told(InvalidOrders, 1, call, ROUTES, PASSINGS[:1], *[None] * many)


class GrantTest(PromiseCase):
    def test_granted(self):
        self.tells(((0, 0), (0, 1), (0, 2), (1, 0), (1, 2)), granted_visits, ROUTES, PASSINGS, (0, 0))
        self.tells(((0, 2), (1, 0), (1, 1), (1, 2)), granted_visits, ROUTES, PASSINGS, (2, 0))
        self.tells(((0, 0), (1, 0), (2, 0), (3, 1), (4, 1)), told_holds, ROUTES, PASSINGS, (0, 0))
        self.tells(((1, 1), (2, 0), (3, 1), (4, 1)), told_holds, ROUTES, PASSINGS, (2, 0))
        self.tells(((0, 0), (0, 1), (0, 2), (1, 0)), granted_visits, TWICE_ROUTES, TWICE, (0, 0))

    def test_granted_by_chance(self):
        for routes, passings in worlds(2, 200, longest=4):
            for known in itertools.islice(all_facts(routes), 60):
                expected = granted(routes, passings, known)
                self.tells(expected, granted_visits, routes, passings, known)
                self.tells(expected, granted_visits, listed(routes), listed(passings), list(known))
                cells = tuple(sorted((routes[robot][visit], robot) for robot, visit in expected))
                self.tells(cells, told_holds, routes, passings, known)
                told = implied_known(routes, passings, known)
                self.assertTrue(same(told, implied(routes, passings, known)) and is_tupled(told))

    def test_what_follows(self):
        # Robot 1 came to its visit 1 only behind robot 0's last coming.
        self.tells((2, 1), implied_known, ROUTES, PASSINGS, (0, 1))
        self.tells((1, 0), implied_known, ROUTES, PASSINGS, (1, 0))
        self.tells((1, 1), implied_known, RING_ROUTES, RING, (0, 1))
        # What follows can't be lower again.
        for routes, passings in live_worlds(3, 60):
            for known in itertools.islice(all_facts(routes), 40):
                told = implied_known(routes, passings, known)
                self.assertEqual(joined_known(routes, told, known), told)
                self.tells(told, implied_known, routes, passings, told)

    def test_by_true_facts_a_granted_visit_is_the_next_of_its_row_or_over(self):
        chance = random.Random(4)
        for routes, passings in live_worlds(4, 80):
            done = [0] * len(routes)
            for coming in sorted(all_comings(routes), key=lambda one: len(led_to(web(routes, passings), one))):
                facts = tuple(chance.randint(0, number) for number in done)
                for robot, visit in granted_visits(routes, passings, facts):
                    row = dict(passings)[routes[robot][visit]]
                    ahead = row[:row.index((robot, visit))]
                    self.assertTrue(all(over < done[other] for other, over in ahead))
                done[coming[0]] = coming[1]


class StandTest(PromiseCase):
    def test_stands(self):
        self.tells((0, 2), may_stand, ROUTES, PASSINGS, (0, 0), 0)
        # A robot that may be at one visit alone.
        self.tells((0, 0), may_stand, ROUTES, PASSINGS, (0, 0), 1)
        self.tells((0, 2), may_stand, ROUTES, PASSINGS, (2, 0), 1)
        self.tells((2, 2), may_stand, ROUTES, PASSINGS, (0, 1), 0)
        self.tells((0, 0), may_stand, ((5,),), ((5, ((0, 0),)),), (0,), 0)

    def test_just_where_robots_are_in_some_run_of_one_brain_that_never_fell(self):
        for routes, passings in list(moved_worlds(5, 60, cells=5, robots=3, moves=5)):
            seen = {}
            for hall in self.all_runs(routes, passings):
                for robot, visit in enumerate(hall.done):
                    seen.setdefault((hall.known[0], robot), set()).add(visit)
            for (known, robot), visits in seen.items():
                first, last = may_stand(routes, passings, known, robot)
                self.assertEqual(visits, set(range(first, last + 1)), (routes, passings, known, robot))

    def all_runs(self, routes, passings):
        """All halls that come of the first one: a robot is told what it takes at once, a brain what it likes."""
        begin = RadioHall(routes, passings)
        left, known = [begin], {}
        while left:
            hall = left.pop()
            for number, letter in enumerate(hall.bag):
                if letter[0] == "hold":
                    hall.do_word(("take", number))
            key = (hall.done, hall.known, hall.bag)
            if key in known:
                continue
            known[key] = hall
            for number, letter in enumerate(hall.bag):
                if letter[0] == "left":
                    left.append(copy.deepcopy(hall))
                    left[-1].do_word(("tell", 0, number))
            for robot in range(len(routes)):
                if hall.may_begin(robot):
                    left.append(copy.deepcopy(hall))
                    left[-1].do_word(("start", robot))
                    left[-1].do_word(("come", robot))
        return known.values()


if __name__ == "__main__":
    unittest.main()
