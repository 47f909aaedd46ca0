"""[59] to [61]: lost cells, who can be fetched, and who waits for broken robots."""

import itertools
import random
import unittest

from nobodymeets.broken import (fetch_holds, fetch_order, fetch_paper, freed_holds, mended_passings, never_comings,
                                struck_passings)
from nobodymeets.carried import coming_times
from nobodymeets.errors import (InvalidCell, InvalidHall, InvalidIndex, InvalidLot, InvalidOrders, InvalidRoutes, NoRobot,
                                Refused)
from nobodymeets.halls import Hall, read_drawing
from nobodymeets.passings import need_passings, passing_paper
from tests.hall_worlds import free_hall, is_free, is_row_of_ways, random_hall, subsets
from tests.helpers import (PromiseCase, changed_a_little, is_below, is_tupled, listed, no_numbers_below, no_sequences,
                           odd_values, same)
from tests.test_carried import moved_worlds
from tests.test_passings import RING, RING_ROUTES, all_comings, web

AROUND = free_hall(6, [way for cell in range(6) for way in ((cell, (cell + 1) % 6), ((cell + 1) % 6, cell))])
ROUTES, PASSINGS = ((0, 1, 2), (5, 0, 1)), ((0, ((0, 0), (1, 1))), (1, ((0, 1), (1, 2))), (2, ((0, 2),)), (5, ((1, 0),)))
FULL = [Hall(("free",) * cells, list(itertools.permutations(range(cells), 2))) for cells in range(1, 9)]


def led(hall, start, barred=()):
    """All cells to which a leg leads from a start, past barred cells behind it; its cells between are free."""
    found, left = {start}, [start]
    while left:
        cell = left.pop()
        for one, other in hall.ways:
            if one == cell and other not in found and other not in barred:
                found.add(other)
                if is_free(hall, other):
                    left.append(other)
    return found


def fewest_lost(hall, lost, start, goal):
    """The fewest lost cells on a leg, by taking lost cells out of the way, ever more; None if there is no leg."""
    if goal not in led(hall, start):
        return None
    for let in subsets(sorted(lost)):
        barred = set(lost) - set(let)
        if start not in barred and goal in led(hall, start, barred):
            return len(let)
    return None


def is_leg(hall, start, goal, value):
    if not is_row_of_ways(hall, value) or (value[0], value[-1]) != (start, goal):
        return False
    return all(is_free(hall, cell) for cell in value[1:-1])


def is_fetch(hall, lost, start, goal, value):
    """[59]: straight from the document."""
    if not isinstance(value, tuple) or not value or not isinstance(value[0], str):
        return False
    if value[0] == "shut" and len(value) == 2:
        return goal not in led(hall, start) and same(value[1], tuple(sorted(led(hall, start))))
    if value[0] != "way" or len(value) != 3 or not is_leg(hall, start, goal, value[1]):
        return False
    lots = value[2]
    if not isinstance(lots, tuple) or not all(isinstance(lot, tuple) for lot in lots):
        return False
    cells = [cell for lot in lots for cell in lot]
    if not all(is_below(cell, hall.cells) and cell in lost for cell in cells) or len(set(cells)) != len(cells):
        return False
    if any(start not in lot and goal in led(hall, start, lot) for lot in lots):
        return False
    return len(lots) == sum(cell in lost for cell in value[1])


def freeable(hall, lost, start):
    """[60]: those of lost cells to which a leg leads with no other lost cell on it but perhaps the start."""
    return [cell for cell in sorted(lost) if cell != start and cell in led(hall, start, set(lost) - {cell})]


def is_freed(hall, lost, start, value):
    if not isinstance(value, tuple) or len(value) != 2 or not all(isinstance(part, tuple) for part in value):
        return False
    if not all(is_below(cell, hall.cells) for part in value for cell in part):
        return False
    left = set(lost)
    for cell in value[0]:
        if cell not in freeable(hall, left, start):
            return False
        left.remove(cell)
    return not freeable(hall, left, start) and value[1] == tuple(sorted(left - {start}))


def lost_worlds(seed, many, most=6):
    chance = random.Random(seed)
    for _ in range(many):
        hall = random_hall(chance, most, kinds=("free", "free", "free", "park", "shelf"))
        lost = chance.sample(range(hall.cells), chance.randint(0, hall.cells))
        yield hall, lost, chance.randrange(hall.cells), chance.randrange(hall.cells)


class FetchTest(PromiseCase):
    def test_example(self):
        self.tells(("way", (0, 5, 4, 3), ((1, 4),)), fetch_paper, AROUND, [1, 2, 4], 0, 3)
        self.tells(((1, 2, 4), ()), fetch_order, AROUND, [1, 2, 4], 0)

    def test_no_lost_cells(self):
        self.tells(("way", (0, 1, 2), ()), fetch_paper, AROUND, (), 0, 2)
        self.tells(("way", (3,), ()), fetch_paper, AROUND, (), 3, 3)
        self.tells(((), ()), fetch_order, AROUND, (), 0)

    def test_the_start_or_the_goal_lost(self):
        row = read_drawing("...")
        self.tells(("way", (0, 1, 2), ((0,),)), fetch_paper, row, (0,), 0, 2)
        self.tells(("way", (0, 1, 2), ((0,), (2,))), fetch_paper, row, (2, 0), 0, 2)
        self.tells(("way", (0, 1, 2), ((0,), (1,), (2,))), fetch_paper, row, (2, 0, 1), 0, 2)
        self.tells(("way", (1,), ((1,),)), fetch_paper, row, (1,), 1, 1)
        self.holds_just_if(False, fetch_holds, row, (1,), 1, 1, ("way", (1,), ()))
        # There and back is a leg, too, with the start on it twice.
        self.holds_just_if(True, fetch_holds, row, (), 1, 1, ("way", (1, 0, 1), ()))
        self.holds_just_if(False, fetch_holds, row, (1,), 1, 1, ("way", (1, 0, 1), ((1,),)))
        # The start itself is in neither.
        self.tells(((1, 2), ()), fetch_order, row, (2, 0, 1), 0)
        self.tells(((), ()), fetch_order, row, (0,), 0)

    def test_a_goal_to_which_no_leg_leads(self):
        hall = read_drawing(".P.")
        self.tells(("shut", (0, 1)), fetch_paper, hall, (1,), 0, 2)
        self.tells(("way", (1, 2), ()), fetch_paper, hall, (0,), 1, 2)
        for cells, expected in (((0, 1), True), ((0,), False), ((0, 1, 2), False), ((1, 0), False), ([0, 1], False)):
            self.holds_just_if(expected, fetch_holds, hall, (1,), 0, 2, ("shut", cells))

    def test_legs_end_in_cells_that_are_not_free(self):
        # By cell 1, which is lost, as no leg goes through the shelf in cell 3.
        hall = read_drawing("...\nPH.")
        self.tells(("way", (3, 0, 1, 2), ((1,),)), fetch_paper, hall, (1,), 3, 2)

    def test_papers_by_chance(self):
        kinds = {}
        for hall, lost, start, goal in lost_worlds(1, 900):
            paper = fetch_paper(hall, lost, start, goal)
            kinds[paper[0]] = kinds.get(paper[0], 0) + 1
            self.assertTrue(is_tupled(paper) and is_fetch(hall, lost, start, goal, paper), (hall.ways, lost, paper))
            self.holds_just_if(True, fetch_holds, hall, lost, start, goal, paper)
            fewest = fewest_lost(hall, lost, start, goal)
            self.assertEqual(paper[0] == "shut", fewest is None)
            if fewest is not None:
                self.assertEqual(len(paper[2]), fewest)
                self.holds_just_if(True, fetch_holds, hall, lost, start, goal,
                                   ("way", paper[1], tuple([lot[::-1] for lot in paper[2][::-1]])))
            self.tells(paper, fetch_paper, hall, tuple(lost), start, goal)
        self.assertTrue(kinds["way"] > 200 and kinds["shut"] > 200, kinds)

    def test_papers_changed_a_little(self):
        for hall, lost, start, goal in lost_worlds(2, 250, 5):
            for value in changed_a_little(fetch_paper(hall, lost, start, goal)):
                self.holds_just_if(is_fetch(hall, lost, start, goal, value), fetch_holds, hall, lost, start, goal, value)

    def test_all_lots(self):
        lost = (1, 2, 4, 5)
        for one, other in itertools.product(list(subsets(lost)), repeat=2):
            for lots in ((one,), (one, other)):
                value = ("way", (0, 1, 2, 3), lots)
                self.holds_just_if(is_fetch(AROUND, lost, 0, 3, value), fetch_holds, AROUND, lost, 0, 3, value)


class FreedTest(PromiseCase):
    def test_cells_that_can_be_freed_in_several_orders(self):
        for order in itertools.permutations((1, 2, 4)):
            expected = order.index(1) < order.index(2) or order.index(4) < order.index(2)
            self.holds_just_if(expected, freed_holds, AROUND, (1, 2, 4), 0, (order, ()))

    def test_cells_that_never_can(self):
        hall = read_drawing("..P..")
        self.tells(((1, 2), (3, 4)), fetch_order, hall, (4, 3, 2, 1), 0)
        self.holds_just_if(True, freed_holds, hall, (4, 3, 2, 1), 0, ((1, 2), (3, 4)))
        for value in (((1,), (2, 3, 4)), ((1, 2), (4, 3)), ((1, 2), (3,)), ((2, 1), (3, 4)), ((1, 2, 3), (4,)),
                      ([1, 2], (3, 4)), ((1, 2), [3, 4]), ((1, 2, 2), (3, 4)), ((1, 2),), ((1, True), (3, 4))):
            self.holds_just_if(False, freed_holds, hall, (4, 3, 2, 1), 0, value)

    def test_orders_by_chance(self):
        never = 0
        for hall, lost, start, _ in lost_worlds(3, 700):
            told = fetch_order(hall, lost, start)
            left, order = set(lost), []
            while freeable(hall, left, start):
                order.append(freeable(hall, left, start)[0])
                left.remove(order[-1])
            never += len(left - {start}) > 0
            self.assertTrue(same(told, (tuple(order), tuple(sorted(left - {start})))))
            self.holds_just_if(True, freed_holds, hall, lost, start, told)
            if len(order) < 5:
                for other in itertools.permutations(order):
                    value = (other, told[1])
                    self.holds_just_if(is_freed(hall, lost, start, value), freed_holds, hall, lost, start, value)
        self.assertGreater(never, 100)

    def test_papers_changed_a_little(self):
        for hall, lost, start, _ in lost_worlds(4, 250, 5):
            for value in itertools.chain(changed_a_little(fetch_order(hall, lost, start)), odd_values()):
                self.holds_just_if(is_freed(hall, lost, start, value), freed_holds, hall, lost, start, value)

    def test_wrong_ones(self):
        for call, more in ((fetch_paper, (None,)), (fetch_holds, (None, None)), (fetch_order, ()), (freed_holds, (None,))):
            for value in odd_values():
                if not isinstance(value, Hall):
                    self.told(InvalidHall, -1, call, value, None, None, *more)
            for value in no_sequences():
                self.told(InvalidLot, -1, call, AROUND, value, None, *more)
            for value in no_numbers_below(6) + [3]:
                self.told(InvalidLot, 2, call, AROUND, (5, 3, value, None), None, *more)
            for value in no_numbers_below(6):
                self.told(InvalidCell, 0, call, AROUND, (5, 3), value, *more)
        for value in no_numbers_below(6):
            self.told(InvalidCell, 1, fetch_paper, AROUND, (), 0, value)
            self.told(InvalidCell, 1, fetch_holds, AROUND, (), 0, value, None)


def struck(routes, passings, visits, gone, broken):
    """[61]: without what broken robots would have visited behind the cells in which they are."""
    many = [visits[robot] + 1 + (robot in gone) if robot in broken else len(route) for robot, route in enumerate(routes)]
    return cut(routes, passings, many)


def cut(routes, passings, many):
    rows = [(cell, tuple((robot, visit) for robot, visit in row if visit < many[robot])) for cell, row in passings]
    return tuple(route[:number] for route, number in zip(routes, many)), tuple(row for row in rows if row[1])


def reached_visits(routes, passings, visits, broken):
    """How far all come if broken robots never move and all others do at last."""
    come_to, rows, is_more = list(visits), dict(passings), True
    while is_more:
        is_more = False
        for robot, route in enumerate(routes):
            after = come_to[robot] + 1
            if robot not in broken and after < len(route):
                row = rows[route[after]]
                if all(over < come_to[other] for other, over in row[:row.index((robot, after))]):
                    come_to[robot], is_more = after, True
    return come_to


def mended(hall, routes, passings, visits, gone, broken, told):
    """[61]: whether what is told is the mended passings, robot by robot."""
    routes, passings = struck(routes, passings, visits, gone, broken)
    lasts = reached_visits(routes, passings, visits, broken)
    goals = {robot: route[-1] for robot, route in enumerate(routes) if robot not in broken and lasts[robot] + 1 < len(route)}
    stuck = [cell for robot in broken for cell in routes[robot][visits[robot]:]]
    routes, passings = cut(routes, passings, [lasts[robot] + 1 if robot in goals else len(route)
                                              for robot, route in enumerate(routes)])
    left = sorted(goals)
    while True:
        for robot in left:
            barred = stuck + [route[-1] for other, route in enumerate(routes) if other != robot]
            if goals[robot] in led(hall, routes[robot][-1], barred):
                break
        else:
            return same(told[2], tuple(left)) and (told[0], told[1]) == (routes, passings)
        more = told[0][robot][len(routes[robot]):]
        leg = routes[robot][-1:] + more
        if not is_leg(hall, routes[robot][-1], goals[robot], leg) or any(cell in barred for cell in leg):
            return False
        rows = {cell: list(row) for cell, row in passings}
        for at, cell in enumerate(more):
            rows.setdefault(cell, []).append((robot, len(routes[robot]) + at))
        routes = routes[:robot] + (routes[robot] + more,) + routes[robot + 1:]
        passings = tuple((cell, tuple(rows[cell])) for cell in sorted(rows))
        left.remove(robot)


def broken_worlds(seed, many, cells=6):
    """Live routes and passings in a hall, how far all came, who is between, and who is broken."""
    chance = random.Random(seed)
    for routes, passings in moved_worlds(seed, many, cells, 3, 12):
        rows = dict(passings)
        come_to, between = [0] * len(routes), [False] * len(routes)
        for _ in range(chance.randint(0, 20)):
            robot = chance.randrange(len(routes))
            after = come_to[robot] + 1
            if between[robot]:
                come_to[robot], between[robot] = after, False
            elif after < len(routes[robot]):
                row = rows[routes[robot][after]]
                between[robot] = all(over < come_to[other] for other, over in row[:row.index((robot, after))])
        ways = sorted({pair for route in routes for pair in zip(route, route[1:])}
                      | {tuple(chance.sample(range(cells), 2)) for _ in range(chance.randint(0, 14))})
        hall = Hall([chance.choice(("free", "free", "free", "shelf")) for _ in range(cells)], ways)
        broken = [robot for robot in range(len(routes)) if chance.random() < 0.4]
        yield hall, routes, passings, tuple(come_to), tuple(robot for robot in range(len(routes)) if between[robot]), broken


class WaitTest(PromiseCase):
    def test_example(self):
        self.tells(((1, 2),), never_comings, AROUND, ROUTES, PASSINGS, (1, 0), (), (0,))
        self.tells((((0, 1), (5, 0, 1)), ((0, ((0, 0), (1, 1))), (1, ((0, 1), (1, 2))), (5, ((1, 0),)))), struck_passings,
                   AROUND, ROUTES, PASSINGS, (1, 0), (), (0,))
        # Robot 1's route ends where robot 0 broke: it finds no leg.
        self.tells((((0, 1), (5, 0)), ((0, ((0, 0), (1, 1))), (1, ((0, 1),)), (5, ((1, 0),))), (1,)), mended_passings,
                   AROUND, ROUTES, PASSINGS, (1, 0), (), (0,))

    def test_none_and_all_of_them_broken(self):
        for visits, gone in (((0, 0), ()), ((1, 0), (0,)), ((2, 1), (1,))):
            self.tells((ROUTES, PASSINGS), struck_passings, AROUND, ROUTES, PASSINGS, visits, gone, ())
            self.tells((), never_comings, AROUND, ROUTES, PASSINGS, visits, gone, [])
            self.tells((ROUTES, PASSINGS, ()), mended_passings, AROUND, ROUTES, PASSINGS, visits, gone, ())
            self.tells((), never_comings, AROUND, ROUTES, PASSINGS, visits, gone, (1, 0))
        self.tells((((0, 1, 2), (5,)), ((0, ((0, 0),)), (1, ((0, 1),)), (2, ((0, 2),)), (5, ((1, 0),)))), struck_passings,
                   AROUND, ROUTES, PASSINGS, (1, 0), (0,), (1, 0))

    def test_a_robot_that_is_between_two_cells_holds_both(self):
        # It is between 1 and 2; so robot 1 never comes to cell 1.
        self.tells((ROUTES, PASSINGS), struck_passings, AROUND, ROUTES, PASSINGS, (1, 0), (0,), (0,))
        self.tells(((1, 2),), never_comings, AROUND, ROUTES, PASSINGS, (1, 0), (0,), (0,))
        self.tells((), never_comings, AROUND, ROUTES, PASSINGS, (2, 0), (), (0,))

    def test_another_leg(self):
        # Robot 1 goes on the other way round to cell 2, past robot 0 in cell 0.
        routes = ((0, 1, 3), (5, 0, 1, 2))
        hall = free_hall(6, [(0, 1), (1, 3), (5, 0), (1, 2), (5, 4), (4, 3), (3, 2)])
        passings = ((0, ((0, 0), (1, 1))), (1, ((0, 1), (1, 2))), (2, ((1, 3),)), (3, ((0, 2),)), (5, ((1, 0),)))
        self.tells((((0,), (5, 4, 3, 2)), ((0, ((0, 0),)), (2, ((1, 3),)), (3, ((1, 2),)), (4, ((1, 1),)), (5, ((1, 0),))), ()),
                   mended_passings, hall, routes, passings, (0, 0), (), (0,))
        self.tells(((1, 1), (1, 2), (1, 3)), never_comings, hall, routes, passings, (0, 0), (), (0,))
        # A shelf on that leg bars it.
        barred = Hall(("free",) * 4 + ("shelf", "free"), hall.ways)
        self.assertEqual(mended_passings(barred, routes, passings, (0, 0), (), (0,))[2], (1,))

    def test_visits_struck_from_the_middle_of_a_row(self):
        routes = ((0, 1, 2), (3, 1, 4), (5, 1, 6))
        passings = ((0, ((0, 0),)), (1, ((0, 1), (1, 1), (2, 1))), (2, ((0, 2),)), (3, ((1, 0),)), (4, ((1, 2),)),
                    (5, ((2, 0),)), (6, ((2, 2),)))
        told = struck_passings(FULL[6], routes, passings, (0, 0, 0), (), (1,))
        self.assertEqual(told[1][1], (1, ((0, 1), (2, 1))))
        self.tells((), never_comings, FULL[6], routes, passings, (0, 0, 0), (), (1,))

    def test_worlds_by_chance(self):
        seen = {"never": 0, "left": 0, "mended": 0}
        for world in broken_worlds(1, 1500):
            hall, routes, passings, visits, gone, broken = world
            both = struck_passings(*world)
            self.assertTrue(same(both, struck(*world[1:])))
            lasts = reached_visits(*both, visits, broken)
            never = tuple(coming for coming in all_comings(both[0]) if coming[0] not in broken
                          and coming[1] > lasts[coming[0]])
            self.tells(never, never_comings, *world)
            told = mended_passings(*world)
            self.assertTrue(is_tupled(told) and mended(*world, told), (world, told))
            seen["never"] += len(never) > 0
            seen["left"] += len(told[2]) > 0
            seen["mended"] += len(never) > 0 and len(told[2]) == 0
            # The mended passings are live, and have all comings that would have happened.
            self.assertEqual(need_passings(told[0], told[1]), told[1])
            self.assertEqual(passing_paper(told[0], told[1])[0], "live")
            for robot, last in enumerate(lasts):
                self.assertEqual(told[0][robot][:last + 1], routes[robot][:last + 1])
                if robot not in broken and robot not in told[2]:
                    self.assertEqual(told[0][robot][-1], routes[robot][-1])
            self.tells(told, mended_passings, hall, listed(routes), listed(passings), list(visits), list(gone), tuple(broken))
        self.assertTrue(all(count > 30 for count in seen.values()), seen)

    def test_in_front_of_what_never_happens_stands_a_cell_that_is_never_left(self):
        # By the web of the struck ones, and what is behind the visits that broken robots never leave.
        for hall, routes, passings, visits, gone, broken in broken_worlds(2, 400):
            both = struck_passings(hall, routes, passings, visits, gone, broken)
            pairs, never = web(*both), set()
            stuck = {(robot, visit) for robot in broken for visit in range(visits[robot], len(both[0][robot]))}
            for _, row in both[1]:
                for at, visit in enumerate(row):
                    if any(one in stuck for one in row[:at]) and visit[1] > 0:
                        never.add(visit)
            never |= {(robot, visit) for robot, visit in stuck if visit > visits[robot]}
            while True:
                more = {other for one, other in pairs if one in never} - never
                if not more:
                    break
                never |= more
            expected = tuple(sorted(coming for coming in never if coming[0] not in broken))
            self.tells(expected, never_comings, hall, routes, passings, visits, gone, broken)

    def test_all_others_happen_none_later_than_told(self):
        chance = random.Random(3)
        for hall, routes, passings, _, _, broken in broken_worlds(3, 300):
            start = (0,) * len(routes)
            times = [[chance.randint(1, 4) for _ in route[1:]] for route in routes]
            told = coming_times(routes, passings, times)
            mends = mended_passings(hall, routes, passings, start, (), broken)
            never = never_comings(hall, routes, passings, start, (), broken)
            more = [[*row, *[1] * len(route)][:len(route) - 1] for row, route in zip(times, mends[0])]
            then = coming_times(mends[0], mends[1], more)
            for robot, visit in all_comings(struck_passings(hall, routes, passings, start, (), broken)[0]):
                if robot not in broken and (robot, visit) not in never:
                    self.assertLessEqual(then[robot][visit - 1], told[robot][visit - 1])

    def test_wrong_ones(self):
        for call in (struck_passings, never_comings, mended_passings):
            for value in odd_values():
                if not isinstance(value, Hall):
                    self.told(InvalidHall, -1, call, value, None, None, None, None, None)
            self.told(InvalidRoutes, -1, call, AROUND, None, None, None, None, None)
            self.told(InvalidRoutes, 0, call, AROUND, ((0, 2), (1, 1)), None, None, None, None)
            self.told(InvalidOrders, -1, call, AROUND, ROUTES, None, None, None, None)
            self.told(InvalidOrders, 1, call, AROUND, ROUTES, PASSINGS[:1], None, None, None)
            for value in no_sequences() + [(), (0,), (0, 0, 0)]:
                self.told(InvalidIndex, -1, call, AROUND, ROUTES, PASSINGS, value, None, None)
            for value in no_numbers_below(3):
                self.told(InvalidIndex, 1, call, AROUND, ROUTES, PASSINGS, (0, value), None, None)
                self.told(InvalidIndex, 0, call, AROUND, ROUTES, PASSINGS, (value, None), None, None)
            for value in no_sequences():
                self.told(NoRobot, value, call, AROUND, ROUTES, PASSINGS, (0, 0), value, None)
                self.told(NoRobot, value, call, AROUND, ROUTES, PASSINGS, (0, 0), (), value)
            for value in no_numbers_below(2):
                self.told(NoRobot, value, call, AROUND, ROUTES, PASSINGS, (0, 0), (1, value, None), None)
                self.told(NoRobot, value, call, AROUND, ROUTES, PASSINGS, (0, 0), (1,), (1, value, None))
            ring = FULL[3], RING_ROUTES, RING
            self.told(Refused, "ring", call, *ring, (2, 0), (1,), (0,))
            self.told(NoRobot, 2, call, *ring, (2, 0), (1,), (2,))

    def test_standings_to_which_nothing_leads(self):
        for visits, gone in (((0, 1), ()), ((0, 0), (1,)), ((1, 2), ()), ((2, 2), (0,)), ((2, 2), (1,)), ((0, 2), (0,)),
                             ((1, 1), (1,))):
            for call in (struck_passings, never_comings, mended_passings):
                self.told(Refused, "standing", call, AROUND, ROUTES, PASSINGS, visits, gone, (0,))
        for visits, gone in (((1, 1), (0,)), ((2, 1), (1, 1)), ((1, 0), (1, 0))):
            struck_passings(AROUND, ROUTES, PASSINGS, visits, gone, ())


if __name__ == "__main__":
    unittest.main()
