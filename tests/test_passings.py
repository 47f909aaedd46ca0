"""[31], [32]: routes, passings, and whether they are live."""

import itertools
import random
import unittest

from nobodymeets.errors import InvalidHall, InvalidOrders, InvalidPlan, InvalidRoutes, Refused
from nobodymeets.halls import Hall, read_drawing
from nobodymeets.passings import (need_passings, need_routes, order_pairs, passing_holds, passing_paper, passing_web,
                                  plan_passings, plan_routes, strict_plan)
from tests.hall_worlds import random_hall
from tests.helpers import (PromiseCase, changed_a_little, is_int, is_tupled, listed, no_sequences, odd_values, same,
                           tupled)
from tests.test_plans import clash, random_plan

ROUTES = ((0, 1, 2), (3, 1, 4))
PASSINGS = ((0, ((0, 0),)), (1, ((0, 1), (1, 1))), (2, ((0, 2),)), (3, ((1, 0),)), (4, ((1, 2),)))
# Each goes where the other one is, and each waits for the other one to go.
RING_ROUTES = ((0, 1, 2), (1, 0, 3))
RING = ((0, ((0, 0), (1, 1))), (1, ((1, 0), (0, 1))), (2, ((0, 2),)), (3, ((1, 2),)))
# Robot 0 comes to cell 1 twice, robot 1 between.
TWICE_ROUTES = ((0, 1, 2, 1, 0), (3, 1, 3))
TWICE = ((0, ((0, 0), (0, 4))), (1, ((0, 1), (1, 1), (0, 3))), (2, ((0, 2),)), (3, ((1, 0), (1, 2))))


def is_number(value):
    return is_int(value) and value >= 0


def is_row(value):
    return isinstance(value, (list, tuple))


def routes_fault(value):
    if not is_row(value) or not 1 <= len(value) <= 8:
        return -1
    for robot, route in enumerate(value):
        if not is_row(route) or not route or not all(is_number(cell) for cell in route):
            return robot
        if any(one == other for one, other in zip(route, route[1:])):
            return robot
    return None


def hall_fault(hall, value):
    if not is_row(value) or not 1 <= len(value) <= 8:
        return -1
    for robot, route in enumerate(value):
        if not is_row(route) or not route or not all(is_number(cell) and cell < hall.cells for cell in route):
            return robot
        if not all(pair in hall.ways for pair in zip(route, route[1:])):
            return robot
    return None


def visits_of(routes, cell):
    return [(robot, visit) for robot, route in enumerate(routes) for visit in range(len(route)) if route[visit] == cell]


def passings_fault(routes, value):
    if not is_row(value):
        return -1
    cells = sorted({cell for route in routes for cell in route})
    for number in range(max(len(cells), len(value))):
        if number >= len(cells) or number >= len(value):
            return number
        row = value[number]
        if not is_row(row) or len(row) != 2 or not same(row[0], cells[number]) or not is_row(row[1]):
            return number
        if not all(is_row(visit) and len(visit) == 2 and all(map(is_number, visit)) for visit in row[1]):
            return number
        visits = [tuple(visit) for visit in row[1]]
        if sorted(visits) != visits_of(routes, cells[number]):
            return number
        for robot in range(len(routes)):
            own = [visit for visit in visits if visit[0] == robot]
            if own != sorted(own):
                return number
    return None


def web(routes, passings):
    """[31]: the pairs of comings, straight from the document."""
    pairs = {((robot, k), (robot, k + 1)) for robot, route in enumerate(routes) for k in range(1, len(route) - 1)}
    for _, row in passings:
        for (i, k), (j, m) in zip(row, row[1:]):
            if i != j and m >= 1 and k + 1 < len(routes[i]):
                pairs.add(((i, k + 1), (j, m)))
    return tuple(sorted(pairs))


def all_comings(routes):
    return [(robot, k) for robot, route in enumerate(routes) for k in range(1, len(route))]


def run(routes, passings):
    """Which comings ever happen, if robots start to visits as soon as all ahead of them in the rows are over."""
    come_to, is_more = [0] * len(routes), True
    while is_more:
        is_more = False
        for robot, route in enumerate(routes):
            if come_to[robot] + 1 < len(route):
                row = dict(passings)[route[come_to[robot] + 1]]
                ahead = row[:row.index((robot, come_to[robot] + 1))]
                if all(visit < come_to[other] for other, visit in ahead):
                    come_to[robot] += 1
                    is_more = True
    return come_to


def first_behind(routes, passings):
    for _, row in passings:
        for (robot, visit), after in zip(row, row[1:]):
            if visit == len(routes[robot]) - 1:
                return ("behind", after, (robot, visit))
    return None


def first_late(passings):
    for _, row in passings:
        for robot, visit in row[1:]:
            if visit == 0:
                return ("first", (robot, visit))
    return None


def greatest(pairs, coming, seen=()):
    """How many comings the greatest way to one has; None if a ring leads to it."""
    if coming in seen:
        return None
    numbers = [greatest(pairs, one, seen + (coming,)) for one, other in pairs if other == coming]
    return None if None in numbers else 1 + max(numbers, default=0)


def is_visit(value):
    return isinstance(value, tuple) and len(value) == 2 and all(map(is_number, value))


def is_paper(routes, passings, value):
    """[32]: straight from the document."""
    if not isinstance(value, tuple) or not value or not isinstance(value[0], str):
        return False
    pairs = web(routes, passings)
    if value[0] == "behind" and len(value) == 3:
        if not is_visit(value[1]) or not is_visit(value[2]):
            return False
        lasts = [(robot, len(route) - 1) for robot, route in enumerate(routes)]
        return value[2] in lasts and any((value[2], value[1]) in zip(row, row[1:]) for _, row in passings)
    if len(value) != 2:
        return False
    if value[0] == "first":
        return is_visit(value[1]) and value[1][1] == 0 and any(value[1] in row[1:] for _, row in passings)
    if value[0] == "ring":
        ring = value[1]
        if not isinstance(ring, tuple) or not ring or not all(is_visit(coming) for coming in ring):
            return False
        return all(pair in pairs for pair in zip(ring, ring[1:] + ring[:1]))
    if value[0] != "live" or first_behind(routes, passings) or first_late(passings):
        return False
    rows = value[1]
    if not isinstance(rows, tuple) or len(rows) != len(routes):
        return False
    for route, row in zip(routes, rows):
        if not isinstance(row, tuple) or len(row) != len(route) - 1 or not all(map(is_number, row)):
            return False
    return all(rows[i][k - 1] < rows[j][m - 1] for (i, k), (j, m) in pairs)


def random_routes(chance, cells, robots, longest):
    routes = []
    for _ in range(robots):
        route = [chance.randrange(cells)]
        while len(route) < longest and chance.random() < 0.75 and cells > 1:
            route.append(chance.choice([cell for cell in range(cells) if cell != route[-1]]))
        routes.append(tuple(route))
    return tuple(routes)


def merged(chance, lots):
    """Rows put into one, by chance, each keeping its own order."""
    row, lots = [], [list(lot) for lot in lots if lot]
    while lots:
        lot = chance.choice(lots)
        row.append(lot.pop(0))
        lots = [lot for lot in lots if lot]
    return tuple(row)


def random_passings(chance, routes):
    """Passings in any order, often with first visits first and last ones last."""
    found = []
    tidy = chance.random() < 0.7
    for cell in sorted({cell for route in routes for cell in route}):
        visits = visits_of(routes, cell)
        row = merged(chance, [[visit for visit in visits if visit[0] == robot] for robot in range(len(routes))])
        if tidy:
            row = tuple(sorted(row, key=lambda visit: (visit[1] != 0, visit[1] == len(routes[visit[0]]) - 1)))
        found.append((cell, row))
    return tuple(found)


def all_passings(routes):
    """All passings of routes."""
    cells = sorted({cell for route in routes for cell in route})
    rows = []
    for cell in cells:
        visits = visits_of(routes, cell)
        rows.append([(cell, row) for row in itertools.permutations(visits)
                     if all([v for v in row if v[0] == i] == [v for v in visits if v[0] == i] for i in range(len(routes)))])
    return itertools.product(*rows)


def worlds(seed, many, cells=5, robots=4, longest=5):
    chance = random.Random(seed)
    for _ in range(many):
        routes = random_routes(chance, chance.randint(1, cells), chance.randint(1, robots), longest)
        yield routes, random_passings(chance, routes)


class RouteTest(PromiseCase):
    HALL = read_drawing("P.H\nP.S")

    def test_routes(self):
        self.tells(((0, 1, 0), (5,)), need_routes, self.HALL, [[0, 1, 0], [5]])
        self.tells(((0,),) * 8, need_routes, self.HALL, ((0,),) * 8)
        one_way = read_drawing("P>H")
        self.tells(((0, 1, 2),), need_routes, one_way, ((0, 1, 2),))
        self.told(InvalidRoutes, 0, need_routes, one_way, ((2, 1, 0),))
        for value in (odd_values() + list(changed_a_little(((0, 1), (5,)))) +
                      [((0, 2),), ((0,), ()), ((0,), (6,)), ((0,), (0, 0)), ((0,), (True,)), ((0,),) * 9, ()] +
                      [((0, 2), later) for later in odd_values()] + [((0, 1), (0, 7), (1, 1), None)]):
            fault = hall_fault(self.HALL, value)
            if fault is None:
                self.tells(tupled(value), need_routes, self.HALL, value)
            else:
                self.told(InvalidRoutes, fault, need_routes, self.HALL, value)
        for value in odd_values():
            if not isinstance(value, Hall):
                self.told(InvalidHall, -1, need_routes, value, None)
                self.told(InvalidHall, -1, plan_passings, value, None)

    def test_routes_of_no_hall(self):
        calls = ((need_passings, ()), (order_pairs, ()), (passing_web, ()), (passing_paper, ()), (passing_holds, (None,)),
                 (strict_plan, ()))
        for value in odd_values() + [(), ((),), ((0,), ()), ((0, 1, 1),), ((0,), (3, -1)), ((0,), (True,)), ((0,),) * 9]:
            fault = routes_fault(value)
            if fault is not None:
                for call, more in calls:
                    self.told(InvalidRoutes, fault, call, value, None, *more)
        self.tells(((10 ** 9, ((0, 0),)),), need_passings, [[10 ** 9]], [[10 ** 9, [[0, 0]]]])


class PassingTest(PromiseCase):
    def test_passings(self):
        self.tells(PASSINGS, need_passings, ROUTES, listed(PASSINGS))
        self.tells(TWICE, need_passings, listed(TWICE_ROUTES), TWICE)
        self.tells(RING, need_passings, RING_ROUTES, RING)

    def test_rows_that_are_not_due(self):
        for value, number in ((PASSINGS[:4], 4), (PASSINGS[:2], 2), ((), 0), (PASSINGS + (PASSINGS[4],), 5),
                              (PASSINGS + (None,), 5), (PASSINGS[1:], 0), (PASSINGS[:1] + PASSINGS[2:], 1),
                              (PASSINGS[:1] + PASSINGS, 1), (PASSINGS[:1] + ((1, ((0, 1),)),) + PASSINGS[2:], 1),
                              (PASSINGS[:1] + ((1, ((0, 1), (0, 1))),) + PASSINGS[2:], 1),
                              (PASSINGS[:1] + ((1, ((0, 1), (1, 1), (1, 1))),) + PASSINGS[2:], 1),
                              (PASSINGS[:1] + ((1, ((0, 2), (1, 1))),) + PASSINGS[2:], 1),
                              (PASSINGS[:2] + ((2, ()),) + PASSINGS[3:], 2), ((((False, ((0, 0),)),) + PASSINGS[1:]), 0),
                              ((((0, ((0, False),)),) + PASSINGS[1:]), 0), (((0, ((0, 0),), 0),) + PASSINGS[1:], 0),
                              (PASSINGS[::-1], 0)):
            self.told(InvalidOrders, number, need_passings, ROUTES, value)
            self.told(InvalidOrders, number, passing_paper, ROUTES, value)
        for value in no_sequences():
            for call, more in ((need_passings, ()), (order_pairs, ()), (passing_web, ()), (passing_paper, ()),
                               (passing_holds, (None,)), (strict_plan, ())):
                self.told(InvalidOrders, -1, call, ROUTES, value, *more)

    def test_a_robots_own_visits_ascend(self):
        for row, expected in ((((0, 1), (1, 1), (0, 3)), None), (((1, 1), (0, 1), (0, 3)), None),
                              (((0, 1), (0, 3), (1, 1)), None), (((0, 3), (1, 1), (0, 1)), 1), (((0, 3), (0, 1), (1, 1)), 1)):
            value = TWICE[:1] + ((1, row),) + TWICE[2:]
            if expected is None:
                self.tells(value, need_passings, TWICE_ROUTES, value)
            else:
                self.told(InvalidOrders, expected, need_passings, TWICE_ROUTES, value)

    def test_passings_changed_a_little(self):
        for routes, passings in ((ROUTES, PASSINGS), (TWICE_ROUTES, TWICE), (((0,),), ((0, ((0, 0),)),))):
            for value in odd_values() + list(changed_a_little(passings)) + list(changed_a_little(listed(passings))):
                fault = passings_fault(routes, value)
                if fault is None:
                    self.tells(tupled(value), need_passings, routes, value)
                else:
                    self.told(InvalidOrders, fault, need_passings, routes, value)

    def test_order_pairs(self):
        self.tells(((0, 1, 1, 1),), order_pairs, ROUTES, PASSINGS)
        # A robot's own two visits of a cell are no such pair.
        self.tells(((0, 1, 1, 1), (1, 1, 0, 3)), order_pairs, TWICE_ROUTES, TWICE)
        self.tells((), order_pairs, ((0, 1, 0),), ((0, ((0, 0), (0, 2))), (1, ((0, 1),))))
        self.tells((), order_pairs, ((5,),), ((5, ((0, 0),)),))
        for routes, passings in worlds(1, 200):
            pairs = [pair for _, row in passings for pair in itertools.combinations(row, 2)]
            expected = sorted(one + other for one, other in pairs if one[0] != other[0])
            self.tells(tuple(expected), order_pairs, routes, passings)

    def test_of_several_wrong_routes_the_first_is_told(self):
        hall = read_drawing("...")
        self.told(InvalidRoutes, 0, need_routes, hall, ((0, 2), 5))
        self.told(InvalidRoutes, 1, need_routes, hall, ((0, 1), (0, 2), ()))
        self.told(InvalidRoutes, 0, need_routes, hall, ((0, 7), (1, 1)))
        self.told(InvalidRoutes, -1, need_routes, hall, ((0, 2),) * 9)

    def test_webs(self):
        self.tells((((0, 1), (0, 2)), ((0, 2), (1, 1)), ((1, 1), (1, 2))), passing_web, ROUTES, PASSINGS)
        self.tells((((0, 1), (0, 2)), ((0, 1), (1, 1)), ((1, 1), (0, 1)), ((1, 1), (1, 2))), passing_web, RING_ROUTES, RING)
        self.tells((), passing_web, ((5,),), ((5, ((0, 0),)),))
        for routes, passings in worlds(2, 300):
            self.tells(web(routes, passings), passing_web, routes, passings)
            self.tells(web(routes, passings), passing_web, listed(routes), listed(passings))


class PlanTest(PromiseCase):
    def test_routes_of_plans(self):
        self.tells(((0, 1, 2), (2,)), plan_routes, [[0, 1, 1, 2], [2, 2, 2, 2]])
        self.tells(((9, 7, 9),), plan_routes, ((9, 7, 7, 9),))
        for plan in no_sequences() + [(), ((),), ((0,), ()), ((0,), (0, 1)), ((True,),), ((-1,),), ((None,),), (0,), ((0,), 0)]:
            self.told(InvalidPlan, -1, plan_routes, plan)

    def test_passings_of_plans(self):
        hall = read_drawing("...")
        self.tells(((0, ((0, 0),)), (1, ((0, 1),)), (2, ((1, 0),))), plan_passings, hall, ((0, 1, 1), (2, 2, 2)))
        cross = read_drawing("#.#\n...\n#.#")
        plan = ((1, 2, 3, 3, 3), (0, 0, 0, 2, 4))
        self.tells(((0, ((1, 0),)), (1, ((0, 0),)), (2, ((0, 1), (1, 1))), (3, ((0, 2),)), (4, ((1, 2),))), plan_passings,
                   cross, plan)
        self.told(Refused, 1, plan_passings, hall, ((0, 1, 2), (2, 2, 1)))
        self.told(Refused, 0, plan_passings, hall, ((0,), (0,)))
        for plan, robot in ((None, -1), ((), -1), (((0, 2),), 0), (((0, 1), (2,)), 1)):
            self.told(InvalidPlan, robot, plan_passings, hall, plan)

    def test_passings_of_plans_without_meeting_are_live(self):
        chance = random.Random(3)
        plans = 0
        for _ in range(2500):
            hall = random_hall(chance, 6)
            plan = random_plan(chance, hall, chance.randint(1, 3), chance.randint(0, 6))
            if clash(plan) is not None:
                self.told(Refused, clash(plan)[0], plan_passings, hall, plan)
                continue
            plans += 1
            routes, passings = plan_routes(plan), plan_passings(hall, plan)
            self.assertIsNone(passings_fault(routes, passings))
            self.assertEqual(need_routes(hall, routes), routes)
            for cell, row in passings:
                ticks = [self.tick_of(plan[robot], visit) for robot, visit in row]
                self.assertEqual(ticks, sorted(ticks))
            self.assertEqual(passing_paper(routes, passings)[0], "live")
            made = strict_plan(routes, passings)
            self.assertIsNone(clash(made))
            self.assertEqual((plan_routes(made), plan_passings(hall, made)), (routes, passings))
            self.assertLessEqual(len(made[0]), len(plan[0]))
        self.assertGreater(plans, 500)

    def tick_of(self, row, visit):
        """The tick at which a row comes to its visit of a number."""
        comings = [tick for tick in range(len(row)) if tick == 0 or row[tick] != row[tick - 1]]
        return comings[visit]


class PaperTest(PromiseCase):
    def test_example(self):
        self.tells(("live", ((1, 2), (3, 4))), passing_paper, ROUTES, PASSINGS)

    def test_routes_of_one_cell(self):
        self.tells(("live", ((),)), passing_paper, ((5,),), ((5, ((0, 0),)),))
        self.tells(((5,),), strict_plan, ((5,),), ((5, ((0, 0),)),))
        self.tells(("live", ((), ())), passing_paper, ((5,), (3,)), ((3, ((1, 0),)), (5, ((0, 0),))))
        self.tells(("behind", (1, 0), (0, 0)), passing_paper, ((5,), (5,)), ((5, ((0, 0), (1, 0))),))
        self.tells(("behind", (0, 0), (1, 0)), passing_paper, ((5,), (5,)), ((5, ((1, 0), (0, 0))),))

    def test_behind_a_last_visit(self):
        routes = ((0, 1), (2, 1, 3))
        rows = ((0, ((0, 0),)), (1, ((0, 1), (1, 1))), (2, ((1, 0),)), (3, ((1, 2),)))
        self.tells(("behind", (1, 1), (0, 1)), passing_paper, routes, rows)
        for value, expected in ((("behind", (1, 1), (0, 1)), True), (("behind", (0, 1), (1, 1)), False),
                                (("behind", (1, 1), (0, 0)), False), (("behind", (1, 2), (0, 1)), False),
                                (("behind", [1, 1], (0, 1)), False), (("first", (1, 1)), False),
                                (("live", ((1,), (2, 3))), False), (("ring", ()), False)):
            self.assertEqual(is_paper(routes, rows, value), expected)
            self.holds_just_if(expected, passing_holds, routes, rows, value)
        self.told(Refused, -1, strict_plan, routes, rows)

    def test_a_first_visit_with_another_one_ahead(self):
        routes = ((0, 1, 2), (1, 3))
        rows = ((0, ((0, 0),)), (1, ((0, 1), (1, 0))), (2, ((0, 2),)), (3, ((1, 1),)))
        self.tells(("first", (1, 0)), passing_paper, routes, rows)
        for value, expected in ((("first", (1, 0)), True), (("first", (0, 0)), False), (("first", (1, 1)), False),
                                (("first", (0, 1)), False), (("live", ((1, 2), (1,))), False),
                                (("live", ((1, 2), (9,))), False)):
            self.assertEqual(is_paper(routes, rows, value), expected)
            self.holds_just_if(expected, passing_holds, routes, rows, value)
        self.told(Refused, -1, strict_plan, routes, rows)

    def test_behind_is_told_ahead_of_first_and_both_ahead_of_rings(self):
        routes = ((0, 1), (1, 2), (2, 1))
        rows = ((0, ((0, 0),)), (1, ((0, 1), (1, 0), (2, 1))), (2, ((1, 1), (2, 0))))
        self.tells(("behind", (1, 0), (0, 1)), passing_paper, routes, rows)
        for value in (("behind", (1, 0), (0, 1)), ("behind", (2, 0), (1, 1)), ("first", (1, 0)), ("first", (2, 0))):
            self.assertTrue(is_paper(routes, rows, value))
            self.holds_just_if(True, passing_holds, routes, rows, value)

    def test_waits_in_a_ring(self):
        self.tells(("ring", ((0, 1), (1, 1))), passing_paper, RING_ROUTES, RING)
        self.told(Refused, -1, strict_plan, RING_ROUTES, RING)
        for ring, expected in ((((0, 1), (1, 1)), True), (((1, 1), (0, 1)), True), (((0, 1), (1, 1)) * 2, True),
                               (((0, 1), (0, 2), (1, 1)), False), (((0, 1), (1, 1), (1, 2)), False), (((0, 1),), False),
                               ((), False), ([(0, 1), (1, 1)], False), (([0, 1], (1, 1)), False),
                               (((0, True), (1, 1)), False), (((0, 1), (1, 1), (0, 1)), False)):
            self.assertEqual(is_paper(RING_ROUTES, RING, ("ring", ring)), expected, ring)
            self.holds_just_if(expected, passing_holds, RING_ROUTES, RING, ("ring", ring))

    def test_a_ring_of_three(self):
        routes = ((0, 1, 3), (1, 2, 4), (2, 0, 5))
        rows = ((0, ((0, 0), (2, 1))), (1, ((1, 0), (0, 1))), (2, ((2, 0), (1, 1))), (3, ((0, 2),)), (4, ((1, 2),)),
                (5, ((2, 2),)))
        self.tells(("ring", ((0, 1), (2, 1), (1, 1))), passing_paper, routes, rows)

    def test_any_numbers_that_rise(self):
        for numbers, expected in ((((1, 2), (3, 4)), True), (((0, 7), (8, 10 ** 9)), True), (((1, 3), (3, 4)), False),
                                  (((2, 1), (3, 4)), False), (((1, 2), (3,)), False), (((1, 2),), False),
                                  (((1, 2), (3, 4), ()), False), (((-1, 2), (3, 4)), False), (((False, 2), (3, 4)), False),
                                  ([(1, 2), (3, 4)], False), (((1, 2), [3, 4]), False), (((0, 1), (2, 3)), True)):
            self.holds_just_if(expected, passing_holds, ROUTES, PASSINGS, ("live", numbers))

    def test_papers_by_chance(self):
        kinds = set()
        for routes, passings in worlds(4, 1200):
            paper = passing_paper(routes, passings)
            kinds.add(paper[0])
            self.assertTrue(is_tupled(paper) and is_paper(routes, passings, paper), (routes, passings, paper))
            self.holds_just_if(True, passing_holds, routes, passings, paper)
            self.tells(paper, passing_paper, listed(routes), listed(passings))
            first = first_behind(routes, passings) or first_late(passings)
            pairs = web(routes, passings)
            numbers = {coming: greatest(pairs, coming) for coming in all_comings(routes)}
            if first is not None:
                self.assertTrue(same(paper, first))
            elif None in numbers.values():
                self.assertEqual((paper[0], min(paper[1])), ("ring", paper[1][0]))
                self.assertEqual(len(set(paper[1])), len(paper[1]))
            else:
                rows = tuple(tuple(numbers[(robot, k)] for k in range(1, len(route))) for robot, route in enumerate(routes))
                self.assertTrue(same(paper, ("live", rows)))
            # All get to their last visits just if the passings are live, but for first visits that stand elsewhere.
            if first_late(passings) is None:
                self.assertEqual(paper[0] == "live", run(routes, passings) == [len(route) - 1 for route in routes]
                                 and first is None)
        self.assertEqual(kinds, {"behind", "first", "ring", "live"})

    def test_papers_changed_a_little(self):
        for routes, passings in itertools.chain(worlds(5, 120), [(ROUTES, PASSINGS), (RING_ROUTES, RING)]):
            for value in changed_a_little(passing_paper(routes, passings)):
                self.holds_just_if(is_paper(routes, passings, value), passing_holds, routes, passings, value)

    def test_strict_plans(self):
        self.tells(((0, 1, 2, 2, 2), (3, 3, 3, 1, 4)), strict_plan, ROUTES, PASSINGS)
        live = 0
        for routes, passings in worlds(6, 900):
            paper = passing_paper(routes, passings)
            if paper[0] != "live":
                self.told(Refused, -1, strict_plan, routes, passings)
                continue
            live += 1
            plan = strict_plan(routes, passings)
            self.assertTrue(is_tupled(plan))
            self.assertEqual(len(plan[0]) - 1, max([number for row in paper[1] for number in row], default=0))
            for route, row, numbers in zip(routes, plan, paper[1]):
                self.assertEqual(plan_routes((row,))[0], route)
                self.assertEqual([tick for tick in range(1, len(row)) if row[tick] != row[tick - 1]], list(numbers))
            self.assertIsNone(clash(plan))
            # The plan's visits by time are the passings.
            hall = Hall(("free",) * 5, list(itertools.permutations(range(5), 2)))
            self.assertEqual(plan_passings(hall, plan), passings)
        self.assertGreater(live, 200)

    def test_live_passings_are_just_those_of_plans_without_meeting(self):
        routes = ((0, 1, 2), (2, 1, 0))
        count = 0
        for passings in all_passings(routes):
            paper = passing_paper(routes, passings)
            count += paper[0] == "live"
        self.assertEqual(count, 0)
        routes = ((0, 1, 2), (3, 1, 4), (5, 1, 6))
        self.assertEqual([passing_paper(routes, passings)[0] for passings in all_passings(routes)], ["live"] * 6)

    def test_long_routes(self):
        routes = tuple(tuple(100 if step % 2 else robot for step in range(25)) for robot in range(8))
        passings = tuple((cell, tuple(visits_of(routes, cell))) for cell in sorted({c for route in routes for c in route}))
        paper = passing_paper(routes, passings)
        self.assertTrue(is_paper(routes, passings, paper))
        rows = ((0, 1) * 100,)
        passings = tuple((cell, tuple(visits_of(rows, cell))) for cell in (0, 1))
        self.tells(("live", (tuple(range(1, 200)),)), passing_paper, rows, passings)


if __name__ == "__main__":
    unittest.main()
