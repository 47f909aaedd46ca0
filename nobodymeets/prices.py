"""Prices that show the least sum of a table, tables whose least dealings are the fairest, and tables of ways."""

from nobodymeets.basics import is_index, is_number, is_sequence, steps_from
from nobodymeets.dealing import deal_all, dealing_holds, do_show, least_dealing, need_table, shown_prices
from nobodymeets.errors import InvalidLot, InvalidPrices, Refused
from nobodymeets.halls import need_hall

MOST_CELLS = 12


def need_dealable(table):
    """The rows of a table, in tuples, and a least dealing of it."""
    rows = need_table(table)
    deal, _ = deal_all(rows)
    if deal is None:
        raise Refused(-1)
    return rows, deal


def need_prices(rows, prices):
    """A number for each job, in a tuple."""
    if not is_sequence(prices) or len(prices) != len(rows[0]):
        raise InvalidPrices(-1)
    for job, price in enumerate(prices):
        if not is_number(price):
            raise InvalidPrices(job)
    return tuple(prices)


def prices_hold(table, prices):
    """Whether prices show the least sum."""
    rows, deal = need_dealable(table)
    return do_show(rows, deal, need_prices(rows, prices))


def mixed_prices(table, prices, others):
    """Of two prices that show the least sum, job by job the lesser and the greater ones."""
    rows, deal = need_dealable(table)
    ones = need_prices(rows, prices)
    twos = need_prices(rows, others)
    if not do_show(rows, deal, ones):
        raise Refused(0)
    if not do_show(rows, deal, twos):
        raise Refused(1)
    pairs = list(zip(ones, twos))
    return (tuple([min(one, two) for one, two in pairs]), tuple([max(one, two) for one, two in pairs]))


def least_prices(table):
    """For each job the least price of all that show the least sum."""
    rows, deal = need_dealable(table)
    return shown_prices(rows, deal)


def greatest_prices(table):
    """For each job the greatest price of all that show the least sum, None if there is no greatest one."""
    rows, deal = need_dealable(table)
    least = dealt_sum(rows, deal)
    return tuple([more_without(rows, job, least) for job in range(len(rows[0]))])


def more_without(rows, job, least):
    """What more all would cost without a job, None if then there is no dealing."""
    less = tuple([row[:job] + row[job + 1:] for row in rows])
    deal, _ = deal_all(less)
    return None if deal is None else dealt_sum(less, deal) - least


def dealt_sum(rows, deal):
    """What the jobs of a dealing cost together."""
    return sum([rows[robot][job] for robot, job in enumerate(deal)])


def power_table(table):
    """The table in which each cost is greater than all that a dealing can cost by lesser ones."""
    rows = need_table(table)
    powers = {}
    power = 1
    costs = {cost: True for row in rows for cost in row if cost is not None}
    for lesser in sorted(list(costs)):
        powers[lesser] = power
        power = power * (len(rows) + 1)
    return tuple([tuple([None if cost is None else powers[cost] for cost in row]) for row in rows])


def fairest_dealing(table):
    """The paper of a dealing whose costs, the greatest first, are least, or of robots with too few jobs."""
    return least_dealing(power_table(table))


def fairest_holds(table, value):
    """Whether any value is a paper that fairest_dealing may tell."""
    return dealing_holds(power_table(table), value)


def way_table(hall, starts, goals):
    """The fewest steps by ways from each start to each goal, None where it can't be reached."""
    need_hall(hall)
    begins = need_few_cells(hall, starts, 0)
    ends = need_few_cells(hall, goals, 1)
    return tuple([steps_row(hall, begin, ends) for begin in begins])


def need_few_cells(hall, cells, at):
    """One to twelve cells, in a tuple; at tells which of a call's lots they are."""
    if not is_sequence(cells) or not 1 <= len(cells) <= MOST_CELLS:
        raise InvalidLot(at)
    if not all([is_index(cell, hall.cells) for cell in cells]):
        raise InvalidLot(at)
    return tuple(cells)


def steps_row(hall, begin, ends):
    """The fewest steps from a cell to each of some others."""
    steps = steps_from(hall.followers, begin)
    return tuple([steps.get(end) for end in ends])
