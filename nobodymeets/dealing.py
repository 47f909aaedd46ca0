"""Dealing: which robot does which job, at the least sum of costs or with the least greatest cost."""

from nobodymeets.basics import is_index, is_lot, is_number, is_sequence
from nobodymeets.errors import InvalidIndex, InvalidTable, Refused

MOST = 12


def need_table(table):
    """The rows of a table, in tuples."""
    if not is_sequence(table) or not 1 <= len(table) <= MOST:
        raise InvalidTable(-1)
    for robot, row in enumerate(table):
        if not are_costs(row) or not 1 <= len(row) <= MOST or len(row) != len(table[0]):
            raise InvalidTable(robot)
    return tuple([tuple(row) for row in table])


def are_costs(value):
    """Whether a value is a sequence of numbers and Nones."""
    return is_sequence(value) and all([cost is None or is_number(cost) for cost in value])


def least_dealing(table):
    """A dealing with the least sum and prices that show it, or robots with too few jobs."""
    rows = need_table(table)
    deal, short = deal_all(rows)
    return dealt_paper(rows, deal, short)


def dealt_paper(rows, deal, short):
    """The paper of a least dealing or, where there is none, of the robots that are short of jobs."""
    if deal is None:
        return ("short", short)
    return ("dealt", tuple(deal), shown_prices(rows, deal))


def deal_all(rows):
    """(A dealing with the least sum, None), or (None, a lot of robots with too few jobs)."""
    deal = [None] * len(rows)
    for robot in range(len(rows)):
        deal, short = put_in(rows, deal, robot)
        if deal is None:
            return None, short
    return deal, None


def put_in(rows, deal, robot):
    """(The least dealing changed along a cheapest chain that gives a robot a job, None) or, if
    no chain ends at a job that nobody has, (None, the robots on the chains)."""
    owners = job_owners(deal)
    costs, came = chain_costs(rows, owners, rows[robot])
    ends = [(cost, job) for job, cost in enumerate(costs) if cost is not None and job not in owners]
    if len(ends) == 0:
        others = [owners[job] for job, cost in enumerate(costs) if cost is not None]
        return None, tuple(sorted([robot] + others))
    _, end = min(ends)
    new, first = moved_along(deal, owners, came, end)
    new[robot] = first
    return new, None


def let_take(rows, deal, job):
    """The least dealing changed along a cheapest chain that ends at a job that nobody has."""
    owners = job_owners(deal)
    begins = [0 if other in owners or other == job else None for other in range(len(rows[0]))]
    _, came = chain_costs(rows, owners, begins)
    new, _ = moved_along(deal, owners, came, job)
    return new


def job_owners(deal):
    """The robot that has each job that is dealt."""
    return {job: robot for robot, job in enumerate(deal) if job is not None}


def chain_costs(rows, owners, begins):
    """For each job what a cheapest chain of exchanges to it costs more, and the job ahead of it there.

    A chain begins at a job with its cost in begins; whoever has a job goes on to another one.
    Costs fall only, and a round of exchanges never lowers a least sum, so this ends."""
    costs = list(begins)
    came = [None] * len(costs)
    changed = True
    while changed:
        changed = False
        for job, robot in owners.items():
            for other, cost in enumerate(rows[robot]):
                if cost is None or costs[job] is None:
                    continue
                longer = costs[job] + cost - rows[robot][job]
                if costs[other] is None or longer < costs[other]:
                    costs[other] = longer
                    came[other] = job
                    changed = True
    return costs, came


def moved_along(deal, owners, came, end):
    """The dealing in which each robot of a chain has gone on to its next job, and the chain's first job."""
    new = list(deal)
    job = end
    while came[job] is not None:
        new[owners[came[job]]] = job
        job = came[job]
    return new, job


def shown_prices(rows, deal):
    """The least prices that show that a dealing has the least sum.

    A robot's own job must be no dearer than any other it can do, so each price is raised to what
    that asks; jobs that nobody has stay at 0, as else there would be a dealing with a lesser sum."""
    prices = [0] * len(rows[0])
    changed = True
    while changed:
        changed = False
        for robot, job in enumerate(deal):
            own = rows[robot][job] + prices[job]
            for other, cost in enumerate(rows[robot]):
                if cost is not None and prices[other] < own - cost:
                    prices[other] = own - cost
                    changed = True
    return tuple(prices)


def dealing_holds(table, value):
    """Whether any value is a paper that least_dealing may tell."""
    return paper_holds(need_table(table), value)


def paper_holds(rows, value):
    """Whether any value is a paper of the least sum, for a table in tuples."""
    return is_short_paper(rows, value) or is_least_paper(rows, value)


def is_short_paper(rows, value):
    """Whether any value tells robots that can do fewer jobs together than they are."""
    return isinstance(value, tuple) and len(value) == 2 and value[0] == "short" and are_short(rows, value[1])


def are_short(rows, value):
    """Whether any value is a lot of robots that can do fewer jobs together than they are."""
    if not is_lot(value, len(rows)):
        return False
    jobs = [job for job in range(len(rows[0])) if any([rows[robot][job] is not None for robot in value])]
    return len(jobs) < len(value)


def is_least_paper(rows, value):
    """Whether any value tells a dealing and prices that show that its sum is the least."""
    if not isinstance(value, tuple) or len(value) != 3 or value[0] != "dealt":
        return False
    return is_dealing(rows, value[1]) and are_prices(value[2], len(rows[0])) and do_show(rows, value[1], value[2])


def is_dealing(rows, value):
    """Whether any value is a dealing."""
    if not isinstance(value, tuple) or len(value) != len(rows):
        return False
    if not all([is_index(job, len(rows[0])) for job in value]):
        return False
    if any([rows[robot][job] is None for robot, job in enumerate(value)]):
        return False
    return len({job: True for job in value}) == len(value)


def are_prices(value, jobs):
    """Whether any value is a tuple of a number for each job."""
    return isinstance(value, tuple) and len(value) == jobs and all([is_number(price) for price in value])


def do_show(rows, deal, prices):
    """Whether prices show that a dealing has the least sum."""
    total = sum([rows[robot][job] for robot, job in enumerate(deal)])
    return sum([least_with(row, prices) for row in rows]) - sum(prices) == total


def least_with(row, prices):
    """The least of a robot's costs with prices."""
    return min([cost + price for cost, price in zip(row, prices) if cost is not None])


def soonest_dealing(table):
    """A dealing whose greatest cost is least, with robots that show it, or robots with too few jobs."""
    rows = need_table(table)
    deal, short = deal_all(rows)
    if deal is None:
        return ("short", short)
    while True:
        cheaper, short = deal_all(cheaper_rows(rows, greatest_cost(rows, deal)))
        if cheaper is None:
            return ("dealt", tuple(deal), short)
        deal = cheaper


def greatest_cost(rows, deal):
    """What the dearest job of a dealing costs."""
    return max([rows[robot][job] for robot, job in enumerate(deal)])


def cheaper_rows(rows, most):
    """The table in which robots can do just the jobs that cost them less than most."""
    return tuple([tuple([None if cost is None or cost >= most else cost for cost in row]) for row in rows])


def soonest_holds(table, value):
    """Whether any value is a paper that soonest_dealing may tell."""
    rows = need_table(table)
    if is_short_paper(rows, value):
        return True
    if not isinstance(value, tuple) or len(value) != 3 or value[0] != "dealt":
        return False
    if not is_dealing(rows, value[1]):
        return False
    return are_short(cheaper_rows(rows, greatest_cost(rows, value[1])), value[2])


def need_dealt(table, value):
    """The table's rows in tuples, and the dealing of any value that is a paper with one."""
    rows = need_table(table)
    if not is_least_paper(rows, value):
        raise Refused(-1)
    return rows, list(value[1])


def robot_in(table, value, costs):
    """The paper of the table with one more row, changed along one chain."""
    rows, deal = need_dealt(table, value)
    more = need_table(rows + (costs,))
    new, short = put_in(more, deal + [None], len(rows))
    return dealt_paper(more, new, short)


def robot_out(table, value, robot):
    """The paper of the table with one row less, changed along one chain."""
    rows, deal = need_dealt(table, value)
    if not is_index(robot, len(rows)):
        raise InvalidIndex(-1)
    if len(rows) == 1:
        raise Refused(robot)
    less = rows[:robot] + rows[robot + 1:]
    left = deal[:robot] + deal[robot + 1:]
    return dealt_paper(less, let_take(less, left, deal[robot]), None)


def job_in(table, value, costs):
    """The paper of the table with one job more, changed along one chain."""
    rows, deal = need_dealt(table, value)
    if not are_costs(costs) or len(costs) != len(rows) or len(rows[0]) == MOST:
        raise InvalidTable(-1)
    more = tuple([row + (cost,) for row, cost in zip(rows, costs)])
    return dealt_paper(more, let_take(more, deal, len(rows[0])), None)


def job_out(table, value, job):
    """The paper of the table with one job less, changed along one chain."""
    rows, deal = need_dealt(table, value)
    if not is_index(job, len(rows[0])):
        raise InvalidIndex(-1)
    if len(rows[0]) == 1:
        raise Refused(job)
    less = tuple([row[:job] + row[job + 1:] for row in rows])
    left = [without_job(own, job) for own in deal]
    if job not in deal:
        return dealt_paper(less, left, None)
    new, short = put_in(less, left, deal.index(job))
    return dealt_paper(less, new, short)


def without_job(own, job):
    """A job's number when one job is struck; None for the struck one."""
    if own == job:
        return None
    return own - 1 if own > job else own
