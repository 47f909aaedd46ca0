"""[42], [43], [44]: dealing."""

import itertools
import random
import unittest

from nobodymeets.dealing import (dealing_holds, job_in, job_out, least_dealing, robot_in, robot_out, soonest_dealing,
                                 soonest_holds)
from nobodymeets.errors import InvalidIndex, InvalidTable, Refused
from tests.helpers import (PromiseCase, changed_a_little, is_below, is_int, is_rising, is_tupled, listed, odd_values,
                           same)


def all_deals(table):
    """All dealings of a table."""
    jobs = range(len(table[0]))
    return [deal for deal in itertools.permutations(jobs, len(table))
            if all(row[job] is not None for row, job in zip(table, deal))]


def least_sum(table):
    return min((sum(row[job] for row, job in zip(table, deal)) for deal in all_deals(table)), default=None)


def soonest_cost(table):
    return min((max(row[job] for row, job in zip(table, deal)) for deal in all_deals(table)), default=None)


def jobs_of(table, robots, below=None):
    return {job for robot in robots for job, cost in enumerate(table[robot])
            if cost is not None and (below is None or cost < below)}


def is_lot_of_robots(table, value):
    return isinstance(value, tuple) and all(is_below(robot, len(table)) for robot in value) and is_rising(value)


def is_short(table, value, below=None):
    return is_lot_of_robots(table, value) and len(jobs_of(table, value, below)) < len(value)


def is_deal(table, value):
    if not isinstance(value, tuple) or not all(is_int(job) for job in value):
        return False
    return value in all_deals(table)


def should_hold(table, value):
    """[42]: whether a value is a paper, straight from the document."""
    if not isinstance(value, tuple) or len(value) not in (2, 3):
        return False
    if len(value) == 2:
        return same(value[0], "short") and is_short(table, value[1])
    if not same(value[0], "dealt") or not is_deal(table, value[1]) or not isinstance(value[2], tuple):
        return False
    prices = value[2]
    if len(prices) != len(table[0]) or not all(is_int(price) and price >= 0 for price in prices):
        return False
    least = [min(cost + price for cost, price in zip(row, prices) if cost is not None) for row in table]
    return sum(least) - sum(prices) == sum(row[job] for row, job in zip(table, value[1]))


def should_hold_soonest(table, value):
    """[43]: whether a value is a paper, straight from the document."""
    if not isinstance(value, tuple) or len(value) not in (2, 3):
        return False
    if len(value) == 2:
        return same(value[0], "short") and is_short(table, value[1])
    if not same(value[0], "dealt") or not is_deal(table, value[1]):
        return False
    return is_short(table, value[2], max(row[job] for row, job in zip(table, value[1])))


def random_table(chance, robots, jobs, most, none_of_ten):
    return [[None if chance.randrange(10) < none_of_ten else chance.randint(0, most) for _ in range(jobs)]
            for _ in range(robots)]


def tables(seed, many):
    """Tables of one to four robots and one to five jobs."""
    chance = random.Random(seed)
    for _ in range(many):
        yield random_table(chance, chance.randint(1, 4), chance.randint(1, 5), chance.choice((1, 3, 9, 10 ** 12)),
                           chance.choice((0, 2, 5, 8)))


def small_tables():
    for things in itertools.product((0, 1, None), repeat=4):
        yield [list(things[:2]), list(things[2:])]
        yield [list(things)]
        yield [[thing] for thing in things]


class LeastDealingTest(PromiseCase):
    def test_examples(self):
        table = [[1, 5, 9], [2, 9, None]]
        self.assertEqual(least_dealing(table)[1], (1, 0))
        self.assertEqual(robot_in(table, least_dealing(table), [0, None, 4])[1], (1, 0, 2))
        self.assertEqual(soonest_dealing([[1, 5], [1, None]]), ("dealt", (1, 0), (0, 1)))

    def test_one_robot_and_one_job(self):
        self.assertEqual(least_dealing([[7]])[:2], ("dealt", (0,)))
        self.tells(("short", (0,)), least_dealing, [[None]])
        self.tells(("dealt", (0,), (0,)), soonest_dealing, [[7]])
        self.tells(("short", (0,)), soonest_dealing, [[None]])

    def test_small_tables(self):
        for table in small_tables():
            self.check_least(table)
            self.check_soonest(table)

    def test_other_tables(self):
        for table in tables(1, 400):
            self.check_least(table)
            self.check_soonest(table)

    def check_least(self, table):
        paper = least_dealing(table)
        self.assertTrue(is_tupled(paper))
        self.assertEqual(paper[0], "short" if least_sum(table) is None else "dealt", table)
        self.assertTrue(should_hold(table, paper), (table, paper))
        self.assertIs(dealing_holds(table, paper), True)
        if paper[0] == "dealt":
            self.assertEqual(sum(row[job] for row, job in zip(table, paper[1])), least_sum(table))

    def check_soonest(self, table):
        paper = soonest_dealing(table)
        self.assertTrue(is_tupled(paper))
        self.assertEqual(paper[0], "short" if least_sum(table) is None else "dealt", table)
        self.assertTrue(should_hold_soonest(table, paper), (table, paper))
        self.assertIs(soonest_holds(table, paper), True)
        if paper[0] == "dealt":
            self.assertEqual(max(row[job] for row, job in zip(table, paper[1])), soonest_cost(table))

    def test_jobs_that_nobody_can_do(self):
        self.assertEqual(least_dealing([[None, 3, None], [None, 1, 2]])[1], (1, 2))
        self.tells(("short", (0, 2)), least_dealing, [[None, 3, None], [4, None, 2], [None, 1, None]])
        self.tells(("short", (1,)), soonest_dealing, [[1, 2, 3], [None, None, None], [1, 2, 3]])

    def test_more_robots_than_jobs(self):
        for robots in (2, 3, 12):
            paper = least_dealing([[1]] * robots)
            self.assertTrue(paper[0] == "short" and is_short([[1]] * robots, paper[1]))

    def test_large_tables(self):
        chance = random.Random(3)
        for robots, jobs in ((1, 12), (12, 12), (12, 1), (5, 12), (12, 11)):
            table = random_table(chance, robots, jobs, 10 ** 12, 3)
            self.assertIs(dealing_holds(table, least_dealing(table)), True)
            self.assertIs(soonest_holds(table, soonest_dealing(table)), True)

    def test_no_exchange_by_sixes_is_missed(self):
        table = [[0 if job == robot + 1 else (1 if job == robot else None) for job in range(7)] for robot in range(6)]
        self.assertEqual(least_dealing(table)[1], (1, 2, 3, 4, 5, 6))
        table[5][6] = 100
        self.assertEqual(sum(row[job] for row, job in zip(table, least_dealing(table)[1])), 6)

    def test_wrong_tables(self):
        calls = (least_dealing, soonest_dealing, lambda table: dealing_holds(table, 0),
                 lambda table: soonest_holds(table, 0), lambda table: robot_in(table, 0, 0),
                 lambda table: robot_out(table, 0, 0), lambda table: job_in(table, 0, 0),
                 lambda table: job_out(table, 0, 0))
        for table, at in (([], -1), ([[1]] * 13, -1), (None, -1), ("1", -1), ({0: [1]}, -1), ([[]], 0), ([[1] * 13], 0),
                          ([1], 0), (["1"], 0), ([[True]], 0), ([[-1]], 0), ([["1"]], 0), ([[1, (2,)]], 0),
                          ([[1, 2], [1]], 1), ([[1], [1, 2]], 1), ([[1, 2], [3, None], [3, False]], 2),
                          ([[1], None], 1), ([[1], [-1], [True]], 1), ([[], [1]], 0), ([[1]] * 12 + [1], -1),
                          ([[None], [None, None]], 1)):
            for call in calls:
                self.told(InvalidTable, at, call, table)

    def test_what_holds(self):
        for table in ([[1, 5, 9], [2, 9, None]], [[0, 0], [0, 0]], [[3, 3, 3]], [[None], [None]],
                      [[1, None], [1, None]], [[2, 1, None], [None, 1, 3], [None, 1, None]]):
            self.check_holds(table, [least_dealing(table), soonest_dealing(table)])

    def check_holds(self, table, papers):
        deals = [("dealt", deal, prices) for deal in all_deals(table)
                 for prices in itertools.product((0, 1, 2, 4), repeat=len(table[0]))]
        robots = range(len(table))
        lots = [lot for many in range(4) for lot in itertools.product(robots, repeat=many)]
        shorts = [("short", lot) for lot in lots] + [("dealt", deal, lot) for deal in all_deals(table) for lot in lots]
        changed = [value for paper in papers for value in changed_a_little(paper)]
        for value in papers + deals + shorts + changed + odd_values():
            self.holds_just_if(should_hold(table, value), dealing_holds, table, value)
            self.holds_just_if(should_hold_soonest(table, value), soonest_holds, table, value)

    def test_papers_are_of_tuples_and_have_no_bools(self):
        self.holds_just_if(True, dealing_holds, [[1, 1]], ("dealt", (1,), (0, 0)))
        for value in (["dealt", (1,), (0, 0)], ("dealt", [1], (0, 0)), ("dealt", (1,), [0, 0]),
                      ("dealt", (True,), (0, 0)), ("dealt", (1,), (0, False)), ("dealt", (-1,), (0, 0)),
                      ("dealt", (1,), (0, -1)), ("dealt", (1,), (0,)), ("dealt", (1,), (0, 0), 0)):
            self.holds_just_if(False, dealing_holds, [[1, 1]], value)
        self.holds_just_if(True, dealing_holds, [[None], [1]], ("short", (0,)))
        for value in (["short", (0,)], ("short", [0]), ("short", (False,)), ("short", (1,)), ("short", ()),
                      ("short", (0, 0)), ("short", (-2,)), ("short", (2,)), ("short",), ("short", (1, 0))):
            self.holds_just_if(False, dealing_holds, [[None], [1]], value)
            self.holds_just_if(False, soonest_holds, [[None], [1]], value)
        self.holds_just_if(True, dealing_holds, [[None], [1]], ("short", (0, 1)))


class KeptAlongTest(PromiseCase):
    def test_other_tables(self):
        chance = random.Random(7)
        for table in list(tables(2, 150)) + [table for table in small_tables() if least_sum(table) is not None][::3]:
            if least_sum(table) is not None:
                self.check_all(chance, table, self.any_paper(chance, table))

    def any_paper(self, chance, table):
        """Some paper of a least dealing, not always the one that the package tells."""
        prices = least_dealing(table)[2]
        papers = [("dealt", deal, prices) for deal in all_deals(table)]
        return chance.choice([paper for paper in papers if should_hold(table, paper)])

    def check_all(self, chance, table, paper):
        robots, jobs = len(table), len(table[0])
        for none_of_ten in (0, 4, 9):
            costs = random_table(chance, 1, jobs, 9, none_of_ten)[0]
            self.check_robot_in(table, paper, costs)
            self.check_job_in(table, paper, [row[0] for row in random_table(chance, robots, 1, 5, none_of_ten)])
        for robot in range(robots):
            self.check_robot_out(table, paper, robot)
        for job in range(jobs):
            self.check_job_out(table, paper, job)

    def check_paper(self, table, paper):
        self.assertTrue(should_hold(table, paper), (table, paper))
        self.assertIs(dealing_holds(table, paper), True)
        self.assertEqual(paper[0] == "dealt", least_sum(table) is not None)
        return paper[0] == "dealt"

    def check_robot_in(self, table, paper, costs):
        new = self.unchanged(robot_in, table, paper, costs)
        if self.check_paper(table + [costs], new):
            self.assertLessEqual(set(paper[1]), set(new[1]), "no job that was dealt is left undealt")
            self.check_chain(list(paper[1]) + [None], list(new[1]), len(table), None, set(paper[1]))

    def check_robot_out(self, table, paper, robot):
        if len(table) == 1:
            self.told(Refused, robot, robot_out, table, paper, robot)
            return
        new = self.unchanged(robot_out, table, paper, robot)
        left = list(paper[1][:robot] + paper[1][robot + 1:])
        self.assertTrue(self.check_paper(table[:robot] + table[robot + 1:], new))
        self.check_chain(left, list(new[1]), None, paper[1][robot], set(left))

    def check_job_in(self, table, paper, costs):
        new = self.unchanged(job_in, table, paper, costs)
        self.assertTrue(self.check_paper([row + [cost] for row, cost in zip(table, costs)], new))
        self.check_chain(list(paper[1]), list(new[1]), None, len(table[0]), set(paper[1]))

    def check_job_out(self, table, paper, job):
        if len(table[0]) == 1:
            self.told(Refused, job, job_out, table, paper, job)
            return
        new = self.unchanged(job_out, table, paper, job)
        old = [None if own == job else own - (own > job) for own in paper[1]]
        if self.check_paper([row[:job] + row[job + 1:] for row in table], new):
            first = paper[1].index(job) if job in paper[1] else None
            if first is None:
                self.assertEqual(old, list(new[1]), "nobody changes")
            self.check_chain(old, list(new[1]), first, None, {own for own in old if own is not None})

    def unchanged(self, call, table, paper, told):
        before = repr((table, paper, told))
        new = call(table, paper, told)
        self.assertEqual(repr((table, paper, told)), before)
        self.assertTrue(is_tupled(new))
        self.assertTrue(same(new, call(tuple(map(tuple, table)), paper, listed(told))))
        return new

    def check_chain(self, old, new, first, last, dealt):
        """That the robots whose jobs change are one chain, each taking the next one's job, beginning
        with robot first, or ending at job last, the last job being nobody's before."""
        changed = [robot for robot in range(len(old)) if old[robot] != new[robot]]
        if not changed:
            self.assertIsNone(first)
            return
        begins = [robot for robot in changed if old[robot] not in [new[other] for other in changed]]
        self.assertEqual(len(begins), 1, (old, new))
        if first is not None:
            self.assertEqual(begins, [first])
        robot, gone = begins[0], []
        while robot is not None:
            gone.append(robot)
            others = [other for other in changed if other not in gone and old[other] == new[robot]]
            end, robot = new[robot], others[0] if others else None
        self.assertEqual(sorted(gone), changed, (old, new))
        self.assertNotIn(end, dealt, (old, new))
        if last is not None:
            self.assertEqual(end, last, (old, new))

    def test_papers_without_a_dealing_are_refused_ahead_of_what_follows(self):
        table = [[1, 5, 9], [2, 9, None]]
        good = least_dealing(table)
        bad = [("dealt", (0, 1), good[2]), ("short", (0,)), listed(good), ("dealt", list(good[1]), good[2]),
               ("dealt", (0, 1), (0, 1)), None, good[:2], ("dealt", (True, 0), good[2]), soonest_dealing(table)]
        for value in bad + odd_values():
            if not should_hold(table, value):
                for call in (robot_in, robot_out, job_in, job_out):
                    self.told(Refused, -1, call, table, value, None)
                    self.told(InvalidTable, -1, call, None, value, None)
        short = [[None], [1]]
        self.told(Refused, -1, robot_in, short, least_dealing(short), [1])

    def test_wrong_robots_and_jobs(self):
        table = [[1, 5, 9], [2, 9, None]]
        paper = least_dealing(table)
        for robot in (2, -1, True, False, None, "0", (0,)):
            self.told(InvalidIndex, -1, robot_out, table, paper, robot)
        for job in (3, -1, True, False, None, "0", (0,)):
            self.told(InvalidIndex, -1, job_out, table, paper, job)
        self.told(InvalidIndex, -1, robot_out, [[1]], ("dealt", (0,), (0,)), 1)
        self.told(InvalidIndex, -1, job_out, [[1]], ("dealt", (0,), (0,)), 1)
        self.told(Refused, 0, robot_out, [[1]], ("dealt", (0,), (0,)), 0)
        self.told(Refused, 0, job_out, [[1]], ("dealt", (0,), (0,)), 0)

    def test_wrong_costs(self):
        table = [[1, 5, 9], [2, 9, None]]
        paper = least_dealing(table)
        for costs in ([1, 2], [1, 2, 3, 4], [], None, 3, "123", [1, 2, True], [1, 2, -1], [[1], 2, 3]):
            self.told(InvalidTable, 2, robot_in, table, paper, costs)
        for costs in ([1], [1, 2, 3], [], None, 3, "12", [1, True], [1, -1], [[1], 2]):
            self.told(InvalidTable, -1, job_in, table, paper, costs)

    def test_no_more_than_twelve(self):
        table = [[1] * 12]
        paper = least_dealing(table)
        self.told(InvalidTable, -1, job_in, table, paper, [1])
        self.assertEqual(robot_in(table, paper, [0] * 12)[0], "dealt")
        table = [[None if job > robot else 1 for job in range(12)] for robot in range(12)]
        paper = least_dealing(table)
        self.told(InvalidTable, -1, robot_in, table, paper, [1] * 12)
        self.told(InvalidTable, -1, job_in, table, paper, [1] * 12)
        self.assertEqual(robot_out(table, paper, 0)[0], "dealt")
        self.assertEqual(job_out(table, paper, 11), ("short", tuple(range(12))))


if __name__ == "__main__":
    unittest.main()
