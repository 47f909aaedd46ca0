"""[33] to [35]: passings carried out, lateness, and what stands still."""

import itertools
import random
import unittest

from nobodymeets.carried import Carrying, barred_comings, coming_times, move_slack, open_before, put_behind
from nobodymeets.errors import (InvalidIndex, InvalidOrders, InvalidRoutes, InvalidScript, InvalidWay, NoRobot, Refused)
from nobodymeets.passings import need_passings, order_pairs, passing_paper
from tests.helpers import PromiseCase, is_tupled, listed, no_sequences, odd_values, same
from tests.test_passings import (PASSINGS, RING, RING_ROUTES, ROUTES, TWICE, TWICE_ROUTES, all_comings, first_late,
                                 run, web, worlds)


def moved_worlds(seed, many, cells=6, robots=3, moves=10):
    """Routes and live passings of robots that went one at a time into empty cells, by chance."""
    chance = random.Random(seed)
    for _ in range(many):
        number = chance.randint(1, robots)
        routes = [[cell] for cell in chance.sample(range(cells), number)]
        rows = {route[0]: [(robot, 0)] for robot, route in enumerate(routes)}
        for _ in range(chance.randint(0, moves)):
            robot = chance.randrange(number)
            cell = chance.choice([cell for cell in range(cells) if cell not in [route[-1] for route in routes]])
            rows.setdefault(cell, []).append((robot, len(routes[robot])))
            routes[robot].append(cell)
        yield tuple(map(tuple, routes)), tuple((cell, tuple(rows[cell])) for cell in sorted(rows))


def live_worlds(seed, many, **sizes):
    yield from moved_worlds(seed, many // 2)
    many -= many // 2
    found = 0
    for routes, passings in worlds(seed, many * 40, **sizes):
        if found < many and passing_paper(routes, passings)[0] == "live":
            found += 1
            yield routes, passings


def led_from(pairs, coming):
    """All comings to which ways of the web lead from one, itself too."""
    found, left = {coming}, [coming]
    while left:
        one = left.pop()
        for other in [b for a, b in pairs if a == one and b not in found]:
            found.add(other)
            left.append(other)
    return found


def led_to(pairs, coming):
    return led_from([(b, a) for a, b in pairs], coming)


def ticks_told(routes, passings, times):
    """[34]: when all come, tick by tick: who may start does at once, and takes its time."""
    come_to, until = [0] * len(routes), [None] * len(routes)
    told = [[] for _ in routes]
    rows = dict(passings)
    for tick in range(10 ** 4):
        for robot in range(len(routes)):
            if until[robot] == tick:
                come_to[robot] += 1
                told[robot].append(tick)
                until[robot] = None
        for robot, route in enumerate(routes):
            if until[robot] is None and come_to[robot] + 1 < len(route):
                row = rows[route[come_to[robot] + 1]]
                ahead = row[:row.index((robot, come_to[robot] + 1))]
                if all(visit < come_to[other] for other, visit in ahead):
                    until[robot] = tick + times[robot][come_to[robot]]
        if all(visit == len(route) - 1 for visit, route in zip(come_to, routes)):
            return tuple(tuple(row) for row in told)
    return None


def random_times(chance, routes, most=5):
    return tuple(tuple(chance.randint(1, most) for _ in route[1:]) for route in routes)


class CarryingTest(PromiseCase):
    def carry(self, chance, routes, passings):
        """Starts and comings by chance, till nobody can do anything; nobody meets, told from the document."""
        carrying = Carrying(routes, passings)
        come_to, between = [0] * len(routes), [False] * len(routes)
        rows = dict(passings)
        late_robot = chance.randrange(len(routes))
        while True:
            words = []
            for robot, route in enumerate(routes):
                visit = come_to[robot] + 1
                may = not between[robot] and visit < len(route) and all(
                    over < come_to[other] for other, over in rows[route[visit]][:rows[route[visit]].index((robot, visit))])
                self.assertIs(carrying.may_start(robot), may)
                self.tells(come_to[robot], carrying.visit_of, robot)
                self.tells(route[visit - 1:visit + 1] if between[robot] else route[visit - 1:visit], carrying.held_cells,
                           robot)
                if not may:
                    self.told(Refused, robot, carrying.start_robot, robot)
                if not between[robot]:
                    self.told(Refused, robot, carrying.come_robot, robot)
                words.extend([("start", robot)] * may + [("come", robot)] * between[robot])
            held = [cell for robot in range(len(routes)) for cell in set(carrying.held_cells(robot))]
            if first_late(passings) is None:
                self.assertEqual(len(held), len(set(held)), (routes, passings))
            self.assertIs(carrying.all_over(), all(k == len(route) - 1 for k, route in zip(come_to, routes)))
            if not words:
                return come_to
            name, robot = chance.choice([word for word in words if word[1] != late_robot] or words)
            if name == "start":
                self.assertIsNone(carrying.start_robot(robot))
                between[robot] = True
            else:
                self.assertIsNone(carrying.come_robot(robot))
                between[robot] = False
                come_to[robot] += 1

    def test_whoever_starts_and_comes_when(self):
        chance = random.Random(1)
        for routes, passings in worlds(1, 400):
            end = self.carry(chance, routes, passings)
            if first_late(passings) is None:
                # In whatever order they go, the same comings happen; all just if the passings are live.
                self.assertEqual(end, run(routes, passings))
                is_over = end == [len(route) - 1 for route in routes]
                is_live = passing_paper(routes, passings)[0] == "live"
                self.assertTrue(is_over or not is_live)
                last = [(robot, len(route) - 1) for robot, route in enumerate(routes)]
                if all(visit not in last for _, row in passings for visit in row[:-1]):
                    self.assertEqual(is_over, is_live)

    def test_routes_of_one_cell(self):
        carrying = Carrying(((5,), (0, 1)), ((0, ((1, 0),)), (1, ((1, 1),)), (5, ((0, 0),))))
        self.assertIs(carrying.may_start(0), False)
        self.tells((5,), carrying.held_cells, 0)
        self.assertIs(carrying.all_over(), False)
        self.assertIs(Carrying(((5,),), ((5, ((0, 0),)),)).all_over(), True)
        self.told(Refused, 0, carrying.start_robot, 0)
        self.told(Refused, 0, carrying.come_robot, 0)

    def test_held_cells_are_told_by_its_way(self):
        carrying = Carrying(((2, 1, 2),), ((1, ((0, 1),)), (2, ((0, 0), (0, 2)))))
        for expected, word in (((2,), carrying.start_robot), ((2, 1), carrying.come_robot), ((1,), carrying.start_robot),
                               ((1, 2), carrying.come_robot)):
            self.tells(expected, carrying.held_cells, 0)
            word(0)
        self.tells((2,), carrying.held_cells, 0)
        self.assertIs(carrying.all_over(), True)

    def test_errors_change_nothing(self):
        carrying = Carrying(listed(ROUTES), listed(PASSINGS))
        carrying.start_robot(0)
        for value in odd_values() + [2, -1, 10 ** 9]:
            for name in ("may_start", "start_robot", "come_robot", "visit_of", "held_cells"):
                self.told(NoRobot, value, getattr(carrying, name), value)
                self.told(NoRobot, value, getattr(carrying, name), robot=value)
        self.told(Refused, 0, carrying.start_robot, 0)
        self.told(Refused, 1, carrying.come_robot, 1)
        self.assertIs(carrying.may_start(0), False)
        self.assertEqual((carrying.held_cells(0), carrying.visit_of(0)), ((0, 1), 0))
        self.assertRaises(TypeError, iter, carrying)
        self.assertRaises(TypeError, len, carrying)

    def test_in_a_ring_nobody_starts(self):
        carrying = Carrying(RING_ROUTES, RING)
        self.assertEqual([carrying.may_start(robot) for robot in (0, 1)], [False, False])

    def test_later_changes_to_arguments_have_no_effect(self):
        routes, passings = listed(ROUTES), listed(PASSINGS)
        carrying = Carrying(routes, passings)
        routes[0][1] = 9
        passings[1][1].reverse()
        carrying.start_robot(0)
        self.tells((0, 1), carrying.held_cells, 0)

    def test_wrong_ones(self):
        self.told(InvalidRoutes, -1, Carrying, None, None)
        self.told(InvalidRoutes, 1, Carrying, ((0,), (1, 1)), None)
        self.told(InvalidOrders, 1, Carrying, ROUTES, PASSINGS[:1])


class TimesTest(PromiseCase):
    def test_example(self):
        self.tells(((1, 6), (7, 8)), coming_times, ROUTES, PASSINGS, ((1, 5), (1, 1)))
        self.tells(((1, 6), (7, 8)), coming_times, listed(ROUTES), listed(PASSINGS), [[1, 5], [1, 1]])
        self.tells(((),), coming_times, ((5,),), ((5, ((0, 0),)),), ((),))

    def test_times_by_chance(self):
        chance = random.Random(2)
        for routes, passings in live_worlds(2, 250):
            times = random_times(chance, routes)
            told = coming_times(routes, passings, times)
            self.assertTrue(same(told, ticks_told(routes, passings, times)), (routes, passings, times, told))
            ones = coming_times(routes, passings, tuple((1,) * len(row) for row in times))
            self.assertEqual(("live", ones), passing_paper(routes, passings))

    def test_slack_by_chance(self):
        chance = random.Random(3)
        kinds = set()
        for routes, passings in live_worlds(3, 150, longest=4):
            times = random_times(chance, routes)
            told = coming_times(routes, passings, times)
            for move, coming in itertools.product(all_comings(routes), repeat=2):
                slack = move_slack(routes, passings, times, move, coming)
                kinds.add(slack if slack is None else min(slack, 2))
                for more in (0, 1, 2, 5):
                    late = [list(row) for row in times]
                    late[move[0]][move[1] - 1] += more
                    behind = coming_times(routes, passings, late)[coming[0]][coming[1] - 1]
                    before = told[coming[0]][coming[1] - 1]
                    self.assertEqual(behind - before, 0 if slack is None else max(0, more - slack))
                if move == coming:
                    self.assertEqual(slack, 0)
        self.assertEqual(kinds, {None, 0, 1, 2})

    def test_moves_that_a_coming_does_not_wait_for(self):
        self.tells(None, move_slack, ROUTES, PASSINGS, ((1, 5), (1, 1)), (1, 1), (0, 2))
        self.tells(0, move_slack, ROUTES, PASSINGS, ((1, 5), (1, 1)), (0, 1), (1, 2))
        routes = ((0, 1, 2), (3, 1, 4), (5, 4, 6))
        passings = ((0, ((0, 0),)), (1, ((0, 1), (1, 1))), (2, ((0, 2),)), (3, ((1, 0),)), (4, ((2, 1), (1, 2))),
                    (5, ((2, 0),)), (6, ((2, 2),)))
        self.tells(5, move_slack, routes, passings, ((1, 5), (1, 1), (1, 1)), (2, 1), (1, 2))
        self.told(InvalidIndex, 0, move_slack, ROUTES, PASSINGS, ((1, 5), (1, 1)), (0, 0), (0, 0))

    def test_wrong_ones(self):
        times = ((1, 5), (1, 1))
        for value in odd_values() + [(), ((1, 5),), times + ((),)]:
            self.told(InvalidScript, -1, coming_times, ROUTES, PASSINGS, value)
        for row in odd_values() + [(1,), (1, 2, 3), (1, 0), (1, True), (1, None), (1, -1)]:
            self.told(InvalidScript, 1, coming_times, ROUTES, PASSINGS, ((1, 5), row))
            self.told(InvalidScript, 0, coming_times, ROUTES, PASSINGS, (row, None))
        self.told(InvalidScript, 0, coming_times, RING_ROUTES, RING, ((1,), (1, 1)))
        self.told(Refused, -1, coming_times, RING_ROUTES, RING, ((1, 1), (1, 1)))
        self.told(Refused, -1, move_slack, RING_ROUTES, RING, ((1, 1), (1, 1)), (0, 1), (0, 2))
        for value in odd_values() + [(0, 0), (0, 3), (2, 1), (0, True), (True, 1), (0,), (0, 1, 1), (0, -1)]:
            self.told(InvalidIndex, 0, move_slack, ROUTES, PASSINGS, times, value, None)
            self.told(InvalidIndex, 1, move_slack, ROUTES, PASSINGS, times, (0, 1), value)
            self.told(InvalidIndex, 1, move_slack, RING_ROUTES, RING, times, [0, 1], value)
        for call in (coming_times, move_slack):
            more = () if call is coming_times else (None, None)
            self.told(InvalidRoutes, -1, call, None, None, None, *more)
            self.told(InvalidOrders, 0, call, ROUTES, (), None, *more)


class BarredTest(PromiseCase):
    def test_barred_by_chance(self):
        for routes, passings in live_worlds(4, 250):
            pairs = web(routes, passings)
            for robot, route in enumerate(routes):
                for visit in range(len(route)):
                    told = barred_comings(routes, passings, robot, visit)
                    expected = () if visit + 1 == len(route) else tuple(sorted(led_from(pairs, (robot, visit + 1))))
                    self.assertTrue(same(told, expected))
                    self.assertEqual(set(told), self.never(routes, passings, robot, visit))

    def never(self, routes, passings, stuck, visit):
        """What never happens, by going on as far as can be, the stuck robot up to its visit."""
        come_to, is_more, rows = [0] * len(routes), True, dict(passings)
        while is_more:
            is_more = False
            for robot, route in enumerate(routes):
                after = come_to[robot] + 1
                if after < len(route) and not (robot == stuck and after > visit):
                    row = rows[route[after]]
                    if all(over < come_to[other] for other, over in row[:row.index((robot, after))]):
                        come_to[robot] += 1
                        is_more = True
        return {coming for coming in all_comings(routes) if coming[1] > come_to[coming[0]]}

    def test_edges(self):
        self.tells((), barred_comings, ROUTES, PASSINGS, 0, 2)
        self.tells(((0, 2), (1, 1), (1, 2)), barred_comings, ROUTES, PASSINGS, 0, 1)
        self.tells((), barred_comings, ((5,),), ((5, ((0, 0),)),), 0, 0)
        for robot in odd_values() + [2, -1]:
            self.told(NoRobot, robot, barred_comings, ROUTES, PASSINGS, robot, None)
        for visit in odd_values() + [3, -1]:
            self.told(InvalidIndex, -1, barred_comings, ROUTES, PASSINGS, 0, visit)
        self.told(InvalidIndex, -1, barred_comings, RING_ROUTES, RING, 0, 3)
        self.told(Refused, -1, barred_comings, RING_ROUTES, RING, 0, 2)
        self.told(InvalidRoutes, 0, barred_comings, ((),), None, None, None)
        self.told(InvalidOrders, -1, barred_comings, ROUTES, None, None, None)


class BehindTest(PromiseCase):
    def test_put_behind_by_chance(self):
        chance = random.Random(5)
        for routes, passings in live_worlds(5, 300):
            robot = chance.randrange(len(routes))
            lasts = [route[-1] for other, route in enumerate(routes) if other != robot]
            cells, last = [], routes[robot][-1]
            for _ in range(chance.randint(0, 5)):
                cells.append(chance.choice([cell for cell in range(7) if cell != last]))
                last = cells[-1]
            wrong = [cell for cell in cells if cell in lasts]
            if wrong:
                self.told(Refused, wrong[0], put_behind, routes, passings, robot, cells)
                continue
            told = put_behind(routes, passings, robot, cells)
            self.assertTrue(is_tupled(told))
            more = routes[:robot] + (routes[robot] + tuple(cells),) + routes[robot + 1:]
            rows = {cell: list(row) for cell, row in passings}
            for at, cell in enumerate(cells):
                rows.setdefault(cell, []).append((robot, len(routes[robot]) + at))
            self.assertTrue(same(told, (more, tuple((cell, tuple(rows[cell])) for cell in sorted(rows)))))
            self.assertEqual(need_passings(told[0], told[1]), told[1])
            self.assertEqual(passing_paper(*told)[0], "live")
            self.tells(told, put_behind, listed(routes), listed(passings), robot, tuple(cells))

    def test_passings_that_are_not_live_are_let(self):
        routes, passings = put_behind(RING_ROUTES, RING, 0, (7,))
        self.assertEqual((routes[0], passings[-1]), ((0, 1, 2, 7), (7, ((0, 3),))))

    def test_edges(self):
        self.tells((ROUTES, PASSINGS), put_behind, ROUTES, PASSINGS, 1, ())
        routes, passings = put_behind(TWICE_ROUTES, TWICE, 0, (1, 0, 9))
        self.assertEqual(passings, ((0, ((0, 0), (0, 4), (0, 6))), (1, ((0, 1), (1, 1), (0, 3), (0, 5))), (2, ((0, 2),)),
                                    (3, ((1, 0), (1, 2))), (9, ((0, 7),))))
        self.assertEqual(routes[0], (0, 1, 2, 1, 0, 1, 0, 9))
        # Cells that are another robot's last visit; the first of them is told.
        self.told(Refused, 4, put_behind, ROUTES, PASSINGS, 0, (1, 4, 3, 4))
        self.told(Refused, 2, put_behind, ROUTES, PASSINGS, 1, [2])
        for cells in no_sequences() + [(2,), (1, 1), (1, -1), (1, True), (1, None), ("1",), (1, 3, 3), (1, (2,))]:
            self.told(InvalidWay, -1, put_behind, ROUTES, PASSINGS, 0, cells)
        self.told(InvalidWay, -1, put_behind, ROUTES, PASSINGS, 0, (4, 4))
        for robot in odd_values() + [2, -1]:
            self.told(NoRobot, robot, put_behind, ROUTES, PASSINGS, robot, None)
        self.told(InvalidRoutes, -1, put_behind, (), None, None, None)
        self.told(InvalidOrders, 5, put_behind, ROUTES, PASSINGS + PASSINGS, None, None)

    def test_many_cells(self):
        routes, passings = put_behind(ROUTES, PASSINGS, 0, (0, 1) * 30)
        self.assertEqual(passing_paper(routes, passings)[0], "live")


class OpenTest(PromiseCase):
    def test_open_before_by_chance(self):
        chance = random.Random(6)
        for routes, passings in live_worlds(6, 250):
            pairs = web(routes, passings)
            visits = [chance.randrange(len(route)) for route in routes]
            for coming in all_comings(routes):
                expected = [one for one in led_to(pairs, coming) if one != coming and one[1] > visits[one[0]]]
                self.tells(len(expected), open_before, routes, passings, visits, coming)

    def test_a_coming_waits_for_just_these(self):
        # It comes once they came, however many others come in between, and not before.
        for routes, passings in live_worlds(7, 60):
            pairs, rows = web(routes, passings), dict(passings)
            for coming in all_comings(routes):
                needed = led_to(pairs, coming)
                come_to = [max([0] + [k for robot, k in needed if robot == one and (one, k) != coming])
                           for one in range(len(routes))]
                self.assertEqual(come_to[coming[0]], coming[1] - 1)
                row = rows[routes[coming[0]][coming[1]]]
                self.assertTrue(all(k < come_to[robot] for robot, k in row[:row.index(coming)]))
                self.tells(0, open_before, routes, passings, come_to, coming)

    def test_edges(self):
        self.tells(2, open_before, ROUTES, PASSINGS, (0, 0), (1, 1))
        self.tells(1, open_before, ROUTES, PASSINGS, [1, 0], [1, 1])
        self.tells(0, open_before, ROUTES, PASSINGS, (2, 0), (1, 1))
        self.tells(0, open_before, ROUTES, PASSINGS, (2, 2), (1, 2))
        for visits in odd_values() + [(), (0,), (0, 3), (0, -1), (0, True), (0, 0, 0), (0, None)]:
            self.told(InvalidIndex, -1, open_before, ROUTES, PASSINGS, visits, None)
        for coming in odd_values() + [(0, 0), (0, 3), (2, 1), (0, True), (0,)]:
            self.told(InvalidIndex, 0, open_before, ROUTES, PASSINGS, (0, 0), coming)
            self.told(InvalidIndex, 0, open_before, RING_ROUTES, RING, (0, 0), coming)
        self.told(Refused, -1, open_before, RING_ROUTES, RING, (0, 0), (0, 1))

    def test_order_pairs_of_two_robots_alone(self):
        for routes, passings in live_worlds(8, 100):
            for one, a, other, b in order_pairs(routes, passings):
                self.assertNotEqual(one, other)
                self.assertIn((other, b), led_from(web(routes, passings), (one, a + 1)))


if __name__ == "__main__":
    unittest.main()
