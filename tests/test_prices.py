"""[45]: prices that show the least sum, fairest dealings, tables of ways."""

import itertools
import random
import unittest

from nobodymeets.dealing import least_dealing
from nobodymeets.errors import InvalidHall, InvalidLot, InvalidPrices, InvalidTable, Refused
from nobodymeets.halls import Hall, read_drawing
from nobodymeets.prices import (fairest_dealing, fairest_holds, greatest_prices, least_prices, mixed_prices,
                                power_table, prices_hold, way_table)
from tests.helpers import PromiseCase, changed_a_little, is_tupled, listed
from tests.test_dealing import all_deals, least_sum, random_table, should_hold

TABLE = [[1, 5, 9], [2, 9, None]]


def some_tables(seed, many):
    chance = random.Random(seed)
    for _ in range(many):
        robots = chance.randint(1, 4)
        yield random_table(chance, robots, chance.randint(robots, 5), chance.choice((1, 3, 9, 10 ** 12)),
                           chance.choice((0, 2, 4)))


def dealable_tables(seed, many):
    return [table for table in some_tables(seed, many) if all_deals(table)]


def do_show(table, prices):
    """Whether prices show the least sum, straight from the document."""
    least = [min(cost + price for cost, price in zip(row, prices) if cost is not None) for row in table]
    return sum(least) - sum(prices) == least_sum(table)


def without_job(table, job):
    return [row[:job] + row[job + 1:] for row in table]


class PricesTest(PromiseCase):
    def test_example(self):
        self.tells(("dealt", (1, 0), (4, 0, 0)), least_dealing, TABLE)
        self.tells((4, 0, 0), least_prices, TABLE)
        self.tells((11, 4, 0), greatest_prices, TABLE)

    def test_all_prices_of_small_tables(self):
        chance = random.Random(1)
        for _ in range(150):
            robots = chance.randint(1, 3)
            table = random_table(chance, robots, chance.randint(robots, 3), chance.choice((1, 2)), 2)
            if all_deals(table):
                self.check_all_prices(table)

    def check_all_prices(self, table):
        everything = list(itertools.product(range(10), repeat=len(table[0])))
        shown = [prices for prices in everything if do_show(table, prices)]
        for prices in everything:
            self.holds_just_if(prices in shown, prices_hold, table, prices)
        least = tuple(min(column) for column in zip(*shown))
        self.tells(least, least_prices, table)
        self.assertIn(least, shown)
        # Who has a greatest price at all has one of 2 * 3 at most; the others go beyond.
        for price, most in zip(greatest_prices(table), [max(column) for column in zip(*shown)]):
            self.assertTrue(most == price if price is not None else most > 6, table)

    def test_what_they_mean(self):
        for table in dealable_tables(2, 250):
            least, greatest = least_prices(table), greatest_prices(table)
            self.assertTrue(is_tupled(least) and is_tupled(greatest))
            for job in range(len(table[0])):
                twice = [row + [row[job]] for row in table]
                self.assertEqual(least[job], least_sum(table) - least_sum(twice))
                dearer = least_sum(without_job(table, job)) if len(table[0]) > 1 else None
                self.assertEqual(greatest[job], None if dearer is None else dearer - least_sum(table))
            self.assertIs(prices_hold(table, least), True)

    def test_greatest_prices_show_it_with_a_great_number_for_none(self):
        for table in dealable_tables(3, 200):
            least, greatest = least_prices(table), greatest_prices(table)
            great = sum(cost for row in table for cost in row if cost is not None) + 1
            prices = [low + great if price is None else price for low, price in zip(least, greatest)]
            self.assertIs(prices_hold(table, prices), True)
            for job, price in enumerate(greatest):
                if price is not None:
                    self.assertIs(prices_hold(table, prices[:job] + [price + 1] + prices[job + 1:]), False)

    def test_a_job_without_a_greatest_price(self):
        self.tells((None,), greatest_prices, [[7]])
        self.tells((0,), least_prices, [[7]])
        self.tells((None, None), greatest_prices, [[1, 2], [3, 4]])
        self.tells((None, 0, 0), greatest_prices, [[5, None, None], [None, 2, 2]])
        self.tells((10 ** 12, 0), greatest_prices, [[0, 10 ** 12]])
        self.assertIs(prices_hold([[7]], [10 ** 15]), True)

    def test_jobs_that_nobody_has_are_free(self):
        self.assertIs(prices_hold([[1, 1]], [0, 0]), True)
        self.assertIs(prices_hold([[1, 1]], [0, 1]), False)
        self.assertIs(prices_hold([[1, 2]], [1, 0]), True)
        self.assertIs(prices_hold([[1, 2]], [2, 0]), False)
        self.assertIs(prices_hold([[1, 2]], [1, 1]), False)

    def test_for_each_least_dealing(self):
        for table in dealable_tables(4, 150):
            for prices in (least_prices(table), least_dealing(table)[2]):
                for deal in all_deals(table):
                    if sum(row[job] for row, job in zip(table, deal)) == least_sum(table):
                        for row, job in zip(table, deal):
                            self.assertEqual(row[job] + prices[job], min(
                                cost + price for cost, price in zip(row, prices) if cost is not None))

    def test_mixed(self):
        for table in dealable_tables(5, 200):
            least = least_prices(table)
            great = [low + 5 if price is None else price for low, price in zip(least, greatest_prices(table))]
            half = [low if job % 2 else price for job, (low, price) in enumerate(zip(least, great))]
            shown = [prices for prices in (least, great, half) if prices_hold(table, prices)]
            for one, other in itertools.product(shown, repeat=2):
                both = mixed_prices(table, one, other)
                self.assertEqual(both, (tuple(map(min, zip(one, other))), tuple(map(max, zip(one, other)))))
                self.assertTrue(is_tupled(both))
                self.assertTrue(do_show(table, both[0]) and do_show(table, both[1]))

    def test_the_two_mixed(self):
        table = [[3, 0, None], [0, 3, 1]]
        self.assertTrue(do_show(table, (0, 2, 0)) and do_show(table, (1, 0, 0)))
        self.tells(((0, 0, 0), (1, 2, 0)), mixed_prices, table, [0, 2, 0], (1, 0, 0))
        self.tells(((0, 0, 0), (1, 2, 0)), mixed_prices, table, (1, 0, 0), [0, 2, 0])

    def test_large_tables(self):
        chance = random.Random(6)
        table = random_table(chance, 12, 12, 10 ** 12, 2)
        least, greatest = least_prices(table), greatest_prices(table)
        self.assertIs(prices_hold(table, least), True)
        self.assertEqual(least, least_dealing(table)[2])
        self.assertTrue(all(price is None for price in greatest))
        self.assertTrue(all(price is not None and price >= low for low, price in zip(
            least_prices(table[:11]), greatest_prices(table[:11])) if price is not None))

    def test_tables_without_a_dealing(self):
        short = [[1, None], [2, None]]
        for call, more in ((prices_hold, (None,)), (mixed_prices, (None, None)), (least_prices, ()), (greatest_prices, ()),
                           (prices_hold, ((0, 0),)), (mixed_prices, ((0, 0), (0, True)))):
            self.told(Refused, -1, call, short, *more)
            self.told(InvalidTable, 1, call, [[1], [None, 2]], *more)
            self.told(InvalidTable, -1, call, [], *more)

    def test_wrong_prices(self):
        for wrong, at in (([4, 0], -1), ([4, 0, 0, 0], -1), (None, -1), ("400", -1), ([-1, 0, None], 0), ([4, True, 0], 1),
                          ([4, 0, "0"], 2), ([4, 0, (0,)], 2), ({0: 4, 1: 0, 2: 0}, -1)):
            self.told(InvalidPrices, at, prices_hold, TABLE, wrong)
            self.told(InvalidPrices, at, mixed_prices, TABLE, wrong, [0, 0, 0])
            self.told(InvalidPrices, at, mixed_prices, TABLE, [0, 0, 0], wrong)
        self.told(Refused, 0, mixed_prices, TABLE, [0, 0, 0], [0, 0, 0])
        self.told(Refused, 0, mixed_prices, TABLE, [0, 0, 0], [4, 0, 0])
        self.told(Refused, 1, mixed_prices, TABLE, [4, 0, 0], [0, 0, 0])


class FairestTest(PromiseCase):
    def test_power_table(self):
        self.tells(((1, 9, 27), (3, 27, None)), power_table, TABLE)
        self.tells(((None,),), power_table, [[None]])
        self.tells(((1, 1), (1, None)), power_table, [[0, 0], [0, None]])
        self.tells(((1, 2, 4, 2),), power_table, ((3, 5, 10 ** 12, 5),))

    def test_power_tables_of_many_costs(self):
        table = [[12 * robot + job for job in range(12)] for robot in range(12)]
        powers = power_table(table)
        self.assertEqual((powers[0][0], powers[11][11]), (1, 13 ** 143))
        self.assertEqual(fairest_dealing(table)[0], "dealt")
        self.assertEqual(power_table(powers), powers)

    def fair(self, table, deal):
        return sorted([row[job] for row, job in zip(table, deal)], reverse=True)

    def test_the_greatest_first(self):
        for table in some_tables(7, 300):
            paper = fairest_dealing(table)
            self.assertTrue(is_tupled(paper))
            self.assertIs(fairest_holds(table, paper), True)
            if not all_deals(table):
                self.assertEqual(paper[0], "short")
                continue
            least = min(self.fair(table, deal) for deal in all_deals(table))
            self.assertEqual(self.fair(table, paper[1]), least)
            # Just these dealings are told to hold, by whichever prices show it.
            for deal in all_deals(table):
                self.assertIs(fairest_holds(table, ("dealt", deal, paper[2])), self.fair(table, deal) == least)

    def test_the_fairest_is_not_always_the_least(self):
        table = [[0, 5], [5, 9]]
        self.assertEqual(least_dealing(table)[1], (0, 1))
        self.assertEqual(fairest_dealing(table)[1], (1, 0))
        self.assertIs(fairest_holds(table, least_dealing(table)), False)

    def test_changed_papers(self):
        for table in some_tables(8, 60):
            powers = listed(power_table(table))
            for value in changed_a_little(fairest_dealing(table)):
                self.holds_just_if(should_hold(powers, value), fairest_holds, table, value)


class WayTableTest(PromiseCase):
    def test_steps(self):
        hall = read_drawing("P>H\n#.#\nS#.")
        self.tells(((2, 0, None), (0, None, None), (None, None, 0)), way_table, hall, [0, 2, 4], [2, 0, 4])
        self.tells(((0, 0), (0, 0)), way_table, hall, (3, 3), (3, 3))
        self.tells(((1, 2, 1),), way_table, hall, (3,), (1, 2, 1))

    def test_other_halls(self):
        chance = random.Random(9)
        for _ in range(150):
            cells = chance.randint(1, 7)
            ways = [way for way in itertools.permutations(range(cells), 2) if chance.random() < 0.25]
            hall = Hall(chance.choices(("free", "park", "shelf"), k=cells), ways)
            steps = {(cell, cell): 0 for cell in range(cells)}
            for many in range(1, cells):
                for one, two, goal in itertools.product(range(cells), repeat=3):
                    if (one, two) in ways and steps.get((two, goal)) == many - 1:
                        steps.setdefault((one, goal), many)
            starts = chance.choices(range(cells), k=chance.randint(1, 12))
            goals = chance.choices(range(cells), k=chance.randint(1, 12))
            self.tells(tuple(tuple(steps.get((start, goal)) for goal in goals) for start in starts),
                       way_table, hall, starts, goals)

    def test_a_table_that_can_be_dealt(self):
        hall = read_drawing("P..P\n.##.")
        self.assertEqual(least_dealing(way_table(hall, (0, 3), (4, 5)))[:2], ("dealt", (0, 1)))

    def test_wrong_cells(self):
        hall = read_drawing("...")
        for wrong in (None, (), [], "0", 0, (3,), (-1,), (True,), (0, None), (0,) * 13, ((0,),), {0: 1}):
            self.told(InvalidLot, 0, way_table, hall, wrong, wrong)
            self.told(InvalidLot, 1, way_table, hall, (0,) * 12, wrong)
            self.told(InvalidHall, -1, way_table, None, wrong, wrong)


if __name__ == "__main__":
    unittest.main()
