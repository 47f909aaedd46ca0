"""[36], [37]: who is first where two routes have cells in common, and what can be turned."""

import itertools
import random
import unittest

from nobodymeets.errors import InvalidIndex, InvalidLot, InvalidOrders, InvalidRoutes, InvalidSize, Refused
from nobodymeets.exchanged import (common_visits, live_lots, turned_holds, turned_paper, turning_steps, visit_bundles)
from nobodymeets.passings import order_pairs, passing_paper
from tests.helpers import PromiseCase, changed_a_little, is_int, is_tupled, listed, no_sequences, odd_values, same
from tests.test_carried import moved_worlds
from tests.test_passings import PASSINGS, RING, RING_ROUTES, ROUTES, all_comings, visits_of, worlds

# Both go through cells 1, 2, 3: the one there, the other back; 5 is a bay of the one's way.
THERE = ((0, 1, 2, 3, 4), (6, 3, 2, 1, 7))
BOTH = ((0, 1, 2, 3, 4), (5, 1, 6, 3, 7))
BOTH_PASSINGS = ((0, ((0, 0),)), (1, ((0, 1), (1, 1))), (2, ((0, 2),)), (3, ((0, 3), (1, 3))), (4, ((0, 4),)),
                 (5, ((1, 0),)), (6, ((1, 2),)), (7, ((1, 4),)))


def visits_common(routes, one, other):
    return tuple((a, b) for a in range(len(routes[one])) for b in range(len(routes[other]))
                 if routes[one][a] == routes[other][b])


def rows_of(ones, others, lot):
    """Passings of two robots by which the one is first at just a lot of visits; None if these are none."""
    routes = (ones, others)
    rows = []
    for cell in sorted(set(ones) | set(others)):
        visits = visits_of(routes, cell)

        def is_ahead(x, y):
            if x[0] == y[0]:
                return x[1] < y[1]
            return ((x[1], y[1]) in lot) if x[0] == 0 else ((y[1], x[1]) not in lot)

        row = sorted(visits, key=lambda x: sum(is_ahead(y, x) for y in visits if y != x))
        if not all(is_ahead(x, y) for x, y in itertools.combinations(row, 2)):
            return None
        rows.append((cell, tuple(row)))
    return tuple(rows)


def lots_of(routes, one, other):
    """[36]: all lots by which both, alone in the hall, go through."""
    visits = visits_common(routes, one, other)
    found = []
    for many in range(len(visits) + 1):
        for lot in itertools.combinations(visits, many):
            rows = rows_of(routes[one], routes[other], lot)
            if rows is not None and passing_paper((routes[one], routes[other]), rows)[0] == "live":
                found.append(lot)
    return tuple(sorted(found))


def does_call(visit, other):
    return other[0] <= visit[0] + 1 and other[1] >= visit[1] - 1


def called_by(visits, visit):
    found, left = {visit}, [visit]
    while left:
        one = left.pop()
        for other in visits:
            if other not in found and does_call(one, other):
                found.add(other)
                left.append(other)
    return found


def bundles(routes, one, other):
    visits = visits_common(routes, one, other)
    return tuple(sorted({tuple(sorted(other for other in visits if other in called_by(visits, visit)
                                      and visit in called_by(visits, other))) for visit in visits}))


def pair_worlds(seed, many, most=8, **sizes):
    chance = random.Random(seed)
    for routes, passings in worlds(seed, many * 9, **sizes):
        if len(routes) > 1 and many:
            one, other = chance.sample(range(len(routes)), 2)
            if len(visits_common(routes, one, other)) <= most:
                many -= 1
                yield chance, routes, passings, one, other


class LotTest(PromiseCase):
    def test_no_common_visits(self):
        routes = ((0, 1), (2, 3), (1, 0))
        self.tells((), common_visits, routes, 0, 1)
        self.tells(((),), live_lots, routes, 0, 1)
        self.tells((), visit_bundles, routes, 0, 1)
        self.tells((), turning_steps, routes, 0, 1, (), [])
        self.tells(((0, 1), (1, 0)), common_visits, routes, 0, 2)
        self.tells((), live_lots, routes, 0, 2)

    def test_bundles_of_one_visit(self):
        self.tells(((1, 1), (3, 3)), common_visits, BOTH, 0, 1)
        self.tells((((1, 1),), ((3, 3),)), visit_bundles, BOTH, 0, 1)
        self.tells(((), ((1, 1),), ((1, 1), (3, 3)), ((3, 3),)), live_lots, BOTH, 0, 1)

    def test_visits_that_are_turned_together(self):
        self.tells(((1, 3), (2, 2), (3, 1)), common_visits, THERE, 0, 1)
        self.tells((((1, 3), (2, 2), (3, 1)),), visit_bundles, THERE, 0, 1)
        self.tells(((), ((1, 3), (2, 2), (3, 1))), live_lots, THERE, 0, 1)
        self.tells((((1, 3), (2, 2), (3, 1)),), turning_steps, THERE, 0, 1, (), [[3, 1], (1, 3), (2, 2)])

    def test_a_is_0_and_last_visits(self):
        # The one stands there at first, so it is first; at the other's last visit, too.
        self.tells((((0, 1),),), live_lots, ((1, 0), (2, 1, 3)), 0, 1)
        self.tells((((1, 1),),), live_lots, ((0, 1, 2), (3, 1)), 0, 1)
        self.tells(((),), live_lots, ((0, 1), (2, 1, 3)), 0, 1)
        self.tells(((),), live_lots, ((2, 1, 3), (1, 0)), 0, 1)
        self.tells((), live_lots, ((1,), (2, 1, 3)), 0, 1)
        self.tells((), live_lots, ((1, 0), (1, 2)), 0, 1)
        self.tells((), live_lots, ((0, 1), (2, 1)), 0, 1)

    def test_lots_by_chance(self):
        counts = set()
        for _, routes, _, one, other in pair_worlds(1, 700, cells=5, longest=6):
            self.tells(visits_common(routes, one, other), common_visits, routes, one, other)
            expected = lots_of(routes, one, other)
            counts.add(min(len(expected), 3))
            self.tells(expected, live_lots, routes, one, other)
            self.tells(expected, live_lots, listed(routes), one, other)
            told = visit_bundles(routes, one, other)
            self.assertTrue(same(told, bundles(routes, one, other)))
            # Lots are made of bundles; the common part of two is one, and both together.
            for lot in expected:
                self.assertTrue(all(set(bundle) <= set(lot) or not set(bundle) & set(lot) for bundle in told))
            for first, second in itertools.combinations(expected, 2):
                self.assertIn(tuple(sorted(set(first) & set(second))), expected)
                self.assertIn(tuple(sorted(set(first) | set(second))), expected)
        self.assertEqual(counts, {0, 1, 2, 3})

    def test_steps_by_chance(self):
        lengths = set()
        for chance, routes, _, one, other in pair_worlds(2, 1500, cells=7, longest=8):
            lots = live_lots(routes, one, other)
            if len(lots) > 1:
                begin, end = list(chance.choice(lots)), list(chance.choice(lots))
                chance.shuffle(begin)
                chance.shuffle(end)
                told = turning_steps(routes, one, other, begin, end)
                self.assertTrue(is_tupled(told))
                lengths.add(len(told))
                now = set(begin)
                for bundle in told:
                    self.assertIn(bundle, bundles(routes, one, other))
                    self.assertTrue(set(bundle) <= now or not set(bundle) & now)
                    now ^= set(bundle)
                    self.assertIn(tuple(sorted(now)), lots)
                self.assertEqual(now, set(end))
                self.assertEqual(sum(len(bundle) for bundle in told), len(set(begin) ^ set(end)))
        self.assertTrue({0, 1, 2} <= lengths)

    def test_twelve_visits_and_more(self):
        routes = ((0,) + (1, 2) * 6 + (3,), (4,) + (1, 5) + (2,) + (6,))
        self.assertEqual(len(common_visits(routes, 0, 1)), 12)
        self.assertEqual(live_lots(routes, 0, 1), lots_of(routes, 0, 1))
        more = (routes[0][:-1] + (1, 3), routes[1])
        self.assertEqual(len(common_visits(more, 0, 1)), 13)
        for call in (live_lots, visit_bundles):
            self.told(InvalidSize, "visits", call, more, 0, 1)
        self.told(InvalidSize, "visits", turning_steps, more, 0, 1, None, None)

    def test_lots_that_are_none(self):
        for value in odd_values() + [((1, 3),), ((1, 3), (2, 2), (3, 1), (3, 1)), ((1, 3), (2, 2), (3, True)), ((1, 3), (2, 2), 3),
                                     ((1, 3), (2, 2), (3, 1), (0, 0)), "()", ((3, 1), (2, 2))]:
            if value not in ((), []):
                self.told(InvalidLot, 0, turning_steps, THERE, 0, 1, value, None)
                self.told(InvalidLot, 1, turning_steps, THERE, 0, 1, (), value)
        # No lot is live where the one stands for ever at the other's way.
        self.told(InvalidLot, 0, turning_steps, ((1,), (2, 1, 3)), 0, 1, (), ())

    def test_wrong_ones(self):
        for call, more in ((common_visits, ()), (live_lots, ()), (visit_bundles, ()), (turning_steps, (None, None))):
            self.told(InvalidRoutes, 1, call, ((0,), (1, 1)), None, None, *more)
            for value in odd_values() + [2, -1]:
                self.told(InvalidIndex, 0, call, ROUTES, value, value, *more)
                self.told(InvalidIndex, 1, call, ROUTES, 1, value, *more)
            self.told(InvalidIndex, 1, call, ROUTES, 1, 1, *more)
            self.told(InvalidIndex, 1, call, ROUTES, 0, 0, *more)


def turned_pairs(routes, passings, one, other, asked):
    return {(j, b, i, a) if (i, j) == (one, other) and (a, b) in asked else (i, a, j, b)
            for i, a, j, b in order_pairs(routes, passings)}


def turned(routes, passings, one, other, asked):
    """[37]: the passings, if there are such, in which just these visits are turned."""
    pairs = turned_pairs(routes, passings, one, other, asked)
    rows = []
    for cell, row in passings:
        def is_ahead(x, y):
            return x[1] < y[1] if x[0] == y[0] else x + y in pairs

        row = sorted(row, key=lambda x: sum(is_ahead(y, x) for y in row if y != x))
        if not all(is_ahead(x, y) for x, y in itertools.combinations(row, 2)):
            return None
        rows.append((cell, tuple(row)))
    return tuple(rows)


def is_coming(routes, value):
    if not isinstance(value, tuple) or len(value) != 2 or not all(map(is_int, value)):
        return False
    return value in all_comings(routes)


def is_paper(routes, passings, one, other, asked, value):
    """[37]: straight from the document."""
    if not isinstance(value, tuple) or len(value) != 2 or not isinstance(value[0], str):
        return False
    if value[0] == "live":
        rows = turned(routes, passings, one, other, asked)
        return rows is not None and passing_paper(routes, rows)[0] == "live" and same(value[1], rows)
    if value[0] == "stands":
        visit = value[1]
        if not isinstance(visit, tuple) or len(visit) != 2 or not all(map(is_int, visit)) or visit not in asked:
            return False
        return visit[0] == 0 or visit[1] == len(routes[other]) - 1
    if value[0] != "way" or not isinstance(value[1], tuple) or not value[1]:
        return False
    if not all(is_coming(routes, coming) for coming in value[1]):
        return False
    pairs = order_pairs(routes, passings)
    for (i, k), (j, m) in zip(value[1], value[1][1:]):
        is_behind = (i, k - 1, j, m) in pairs and not ((i, j) == (one, other) and (k - 1, m) in asked)
        if (j, m) != (i, k + 1) and not is_behind:
            return False
    return any(value[1][0] == (one, a) and value[1][-1] == (other, b + 1) for a, b in asked)


class TurnedTest(PromiseCase):
    def test_all_is_turned(self):
        rows = tuple((cell, row[::-1]) for cell, row in BOTH_PASSINGS)
        self.tells(("live", rows), turned_paper, BOTH, BOTH_PASSINGS, 0, 1, [(1, 1), [3, 3]])
        self.tells(("live", BOTH_PASSINGS), turned_paper, BOTH, BOTH_PASSINGS, 0, 1, ())
        told = turned_paper(BOTH, BOTH_PASSINGS, 0, 1, ((3, 3),))
        self.assertEqual((told[0], told[1][3]), ("live", (3, ((1, 3), (0, 3)))))

    def test_one_stands_at_its_begin_or_the_other_for_good(self):
        routes = ((1, 0), (2, 1, 3))
        rows = ((0, ((0, 1),)), (1, ((0, 0), (1, 1))), (2, ((1, 0),)), (3, ((1, 2),)))
        self.tells(("stands", (0, 1)), turned_paper, routes, rows, 0, 1, ((0, 1),))
        routes = ((0, 1, 2), (3, 1))
        rows = ((0, ((0, 0),)), (1, ((0, 1), (1, 1))), (2, ((0, 2),)), (3, ((1, 0),)))
        self.tells(("stands", (1, 1)), turned_paper, routes, rows, 0, 1, ((1, 1),))
        self.holds_just_if(False, turned_holds, routes, rows, 0, 1, ((1, 1),), ("stands", (1, True)))

    def test_a_way_of_waits(self):
        rows = ((0, ((0, 0),)), (1, ((0, 1), (1, 3))), (2, ((0, 2), (1, 2))), (3, ((0, 3), (1, 1))), (4, ((0, 4),)),
                (6, ((1, 0),)), (7, ((1, 4),)))
        paper = turned_paper(THERE, rows, 0, 1, ((2, 2),))
        self.assertEqual(paper[0], "way")
        self.assertTrue(is_paper(THERE, rows, 0, 1, [(2, 2)], paper))
        self.assertEqual(turned_paper(THERE, rows, 0, 1, ((2, 2), (1, 3), (3, 1)))[0], "live")
        # It leads from the one's coming to the other's behind it, and nowhere else.
        way = paper[1]
        self.assertEqual((way[0], way[-1]), ((0, 2), (1, 3)))
        for value in (way[:-1], way[1:], way[:1], way[-1:], ((0, 1),) + way, way + ((1, 4),), way[::-1], way[:1] + way[-1:],
                      way[:-1] + ([1, 3],), (None,) + way, ([0, 2],) + way[1:], way[:1] + (7,) + way[1:]):
            expected = is_paper(THERE, rows, 0, 1, [(2, 2)], ("way", value))
            self.assertEqual(expected, value == way[:1] + way[-1:])
            self.holds_just_if(expected, turned_holds, THERE, rows, 0, 1, ((2, 2),), ("way", value))

    def test_papers_by_chance(self):
        chance = random.Random(3)
        kinds = {}
        for routes, passings in moved_worlds(4, 700, moves=14):
            one, other = (chance.sample(range(len(routes)), 2) if len(routes) > 1 else (0, 0))
            ahead = [(a, b) for i, a, j, b in order_pairs(routes, passings) if (i, j) == (one, other)]
            if len(routes) < 2 or not ahead:
                continue
            asked = [visit for visit in ahead if chance.random() < 0.7]
            chance.shuffle(asked)
            paper = turned_paper(routes, passings, one, other, asked)
            kinds[paper[0]] = kinds.get(paper[0], 0) + 1
            self.assertTrue(is_tupled(paper) and is_paper(routes, passings, one, other, asked, paper))
            self.holds_just_if(True, turned_holds, routes, passings, one, other, asked, paper)
            self.tells(paper, turned_paper, listed(routes), listed(passings), one, other, listed(asked))
            # All can be gone exactly if there is neither of the others.
            rows = turned(routes, passings, one, other, asked)
            is_live = rows is not None and passing_paper(routes, rows)[0] == "live"
            self.assertEqual(paper[0] == "live", is_live)
        self.assertTrue(kinds["live"] > 30 and kinds["stands"] > 30 and kinds["way"] > 5, kinds)

    def test_papers_changed_a_little(self):
        chance = random.Random(5)
        for routes, passings in moved_worlds(6, 60, cells=5, moves=9):
            if len(routes) > 1:
                one, other = chance.sample(range(len(routes)), 2)
                asked = [(a, b) for i, a, j, b in order_pairs(routes, passings) if (i, j) == (one, other)][:3]
                paper = turned_paper(routes, passings, one, other, asked)
                for value in changed_a_little(paper):
                    self.holds_just_if(is_paper(routes, passings, one, other, asked, value), turned_holds, routes, passings,
                                       one, other, asked, value)

    def test_visits_that_are_none(self):
        for value in no_sequences():
            self.told(InvalidLot, -1, turned_paper, BOTH, BOTH_PASSINGS, 0, 1, value)
            self.told(InvalidLot, -1, turned_holds, BOTH, BOTH_PASSINGS, 0, 1, value, None)
        for value in odd_values() + [(1, 1), [1, 1], (2, 2), (1, 3), (3, True), (3, 3, 3)]:
            self.told(InvalidLot, 1, turned_paper, BOTH, BOTH_PASSINGS, 0, 1, ((1, 1), value, None))
        # At these the other is ahead.
        rows = tuple((cell, row[::-1]) for cell, row in BOTH_PASSINGS)
        self.told(InvalidLot, 0, turned_paper, BOTH, rows, 0, 1, ((1, 1),))
        self.tells(("live", BOTH_PASSINGS), turned_paper, BOTH, rows, 1, 0, ((3, 3), (1, 1)))

    def test_errors_in_their_order(self):
        # Passings are looked at behind the robots, and whether all can be gone ahead of the visits.
        for call, more in ((turned_paper, ()), (turned_holds, (None,))):
            self.told(InvalidRoutes, -1, call, None, None, None, None, None, *more)
            self.told(InvalidIndex, 0, call, ROUTES, None, 2, 2, None, *more)
            self.told(InvalidIndex, 1, call, ROUTES, None, 1, 1, None, *more)
            self.told(InvalidOrders, -1, call, ROUTES, None, 1, 0, None, *more)
            self.told(InvalidOrders, 2, call, ROUTES, PASSINGS[:2], 1, 0, None, *more)
            self.told(Refused, -1, call, RING_ROUTES, RING, 1, 0, None, *more)
            self.told(InvalidLot, -1, call, ROUTES, PASSINGS, 1, 0, None, *more)
            for value in odd_values():
                self.told(InvalidIndex, 0, call, ROUTES, PASSINGS, value, 1, (), *more)
                self.told(InvalidIndex, 1, call, ROUTES, PASSINGS, 0, value, (), *more)

    def test_odd_papers(self):
        for value in odd_values():
            for item in (value, ("live", value), ("stands", value), ("way", value), ("way", (value,)), (value, value)):
                self.holds_just_if(False, turned_holds, BOTH, BOTH_PASSINGS, 0, 1, ((1, 1),), item)


if __name__ == "__main__":
    unittest.main()
