"""Right and wrong arguments of the functions of flows, opened, parked, passings, ranked and stretches, and of Desk."""

from nobodymeets.desk import Desk
from nobodymeets.errors import (InvalidCell, InvalidLot, InvalidOrders, InvalidPlan, InvalidRoutes, InvalidSize,
                                InvalidStretches, InvalidTask, NoRobot)
from nobodymeets.flows import most_rows, rows_hold
from nobodymeets.halls import read_drawing
from nobodymeets.opened import (greatest_ends, kept_paper, lost_paper, many_holds, many_paper, more_ends, most_robots,
                                needful_cells, needful_pair)
from nobodymeets.parked import end_lots, exchange_moves, trip_paper, trips_hold
from nobodymeets.passings import (need_passings, need_routes, order_pairs, passing_holds, passing_paper, passing_web,
                                  plan_passings, plan_routes, strict_plan)
from nobodymeets.ranked import rank_bound, ranked_plan
from nobodymeets.stretches import (both_free, either_free, free_but, free_of, is_free_at, late_free, room_at,
                                   shorten_ends)
from tests.calls import WRONG_HALL, hall, wrong
from tests.court_calls import NO_NUMBERS, PLAN, TASK, WRONG_PLAN, WRONG_TASK, task_hall
from tests.helpers import no_integers, no_numbers_below, no_sequences, odd_values
from tests.more_calls import ONE, OTHER, WRONG_STANDING

STRETCHES, OTHERS = ((0, 3), (5, None)), ((2, 6), (9, 10))
FREE = (((0, None),), ((2, 5),), (), STRETCHES)
ROUTES = ((0, 1, 2), (3, 1, 4))
PASSINGS = ((0, ((0, 0),)), (1, ((0, 1), (1, 1))), (2, ((0, 2),)), (3, ((1, 0),)), (4, ((1, 2),)))
HALL_ROUTES = ((0, 1, 2), (3, 1))
FULL = ((1, 0), (4, 3), (6, 4))

NO_STRETCHES = [((0, 0),), ((2, 1),), ((0, 2), (2, 3)), ((0, None), (4, 5)), ((0, True),), ((-1, 2),), ((0,),), (0, 1)]


def wrong_stretches(at):
    return wrong(no_sequences() + NO_STRETCHES, InvalidStretches, at)


WRONG_FREE = wrong(no_sequences() + [(), FREE[:3], FREE + ((),)], InvalidStretches, -1) + wrong(
    [FREE[:2] + (value, None) for value in no_sequences() + NO_STRETCHES], InvalidStretches, 2)
WRONG_TICK = wrong(NO_NUMBERS, InvalidSize, "tick")
WRONG_LATE = wrong(NO_NUMBERS, InvalidSize, "late")
WRONG_ROUTES = wrong(no_sequences() + [(), ((0,),) * 9], InvalidRoutes, -1) + wrong(
    [(ROUTES[0], route) for route in no_sequences() + [(), (0, 0), (0, -1), (0, True), (0, None)]], InvalidRoutes, 1)
WRONG_HALL_ROUTES = wrong(no_sequences() + [(), ((0,),) * 9], InvalidRoutes, -1) + wrong(
    [(ROUTES[0], route) for route in no_sequences() + [(), (0, 0), (0, 2), (7,), (0, True)]], InvalidRoutes, 1)
WRONG_PASSINGS = wrong(no_sequences(), InvalidOrders, -1) + wrong(
    [PASSINGS[:1] + (row,) + PASSINGS[2:] for row in odd_values() + [(1, ((0, 1),)), (2, PASSINGS[1][1]), (1, (0, 1))]],
    InvalidOrders, 1)


def tee():
    return read_drawing("P.H\n#.#\n#S#")


def around():
    return read_drawing("P.H\n...")


def flow_calls():
    """For each function: its right arguments by name, and what wrong ones raise."""
    return stretch_calls() + opened_calls() + parked_calls() + passing_calls() + row_calls()


def stretch_calls():
    one_tick = {"stretches": STRETCHES, "tick": 4}
    wrong_tick = {"stretches": wrong_stretches(-1), "tick": WRONG_TICK}
    both = {"one": STRETCHES, "other": OTHERS}
    wrong_both = {"one": wrong_stretches(0), "other": wrong_stretches(1)}
    return [
        (room_at, one_tick, wrong_tick),
        (is_free_at, one_tick, wrong_tick),
        (free_but, {"ticks": (4, 0, 4), "since": 9}, {
            "ticks": wrong(no_sequences(), InvalidSize, "tick") + wrong(
                [(3, value) for value in NO_NUMBERS], InvalidSize, "tick"),
            "since": wrong([value for value in NO_NUMBERS if value is not None], InvalidSize, "since")}),
        (both_free, both, wrong_both),
        (either_free, both, wrong_both),
        (shorten_ends, {"stretches": STRETCHES, "late": 2}, {"stretches": wrong_stretches(-1), "late": WRONG_LATE}),
        (late_free, {"hall": hall(), "free": FREE, "late": 2},
         {"hall": WRONG_HALL, "free": WRONG_FREE, "late": WRONG_LATE}),
        (free_of, {"hall": hall(), "plan": PLAN}, {"hall": WRONG_HALL, "plan": WRONG_PLAN}),
    ]


def opened_calls():
    no_free = wrong(no_sequences(), InvalidLot, -1) + wrong(
        [(3, value) for value in no_numbers_below(6) + [0, 2, 3]], InvalidLot, 1)
    no_ends = wrong(no_sequences(), InvalidLot, -1) + wrong(
        [(2, value) for value in no_numbers_below(6) + [1, 2, 3]], InvalidLot, 1)
    many = {"hall": around(), "robots": 1}
    wrong_many = {"hall": WRONG_HALL, "robots": wrong(no_integers() + [0, -1, 2, 9], InvalidSize, "robots")}
    return [
        (lost_paper, {"hall": around(), "lost": (5, 1)}, {"hall": WRONG_HALL, "lost": no_free}),
        (needful_pair, {"hall": tee(), "cell": 1},
         {"hall": WRONG_HALL, "cell": wrong(no_numbers_below(5) + [0, 2, 4], InvalidCell, -1)}),
        (needful_cells, {"hall": tee()}, {"hall": WRONG_HALL}),
        (kept_paper, {"hall": around(), "kept": (2, 0)}, {"hall": WRONG_HALL, "kept": no_ends}),
        (greatest_ends, {"hall": around(), "must": (2,)}, {"hall": WRONG_HALL, "must": no_ends}),
        (more_ends, {"hall": around()}, {"hall": WRONG_HALL}),
        (many_paper, many, wrong_many),
        (many_holds, {**many, "value": many_paper(around(), 1)}, {**wrong_many, "value": []}),
        (most_robots, {"hall": around()}, {"hall": WRONG_HALL}),
    ]


def parked_calls():
    both = {"hall": WRONG_HALL, "one": WRONG_STANDING, "other": WRONG_STANDING}
    right = {"hall": read_drawing("P.H\n#S#"), "one": ONE, "other": OTHER}
    robots = [(value, NoRobot, value) for value in odd_values() + [0, 2, 5, -1]]
    return [
        (trip_paper, right, both),
        (trips_hold, {**right, "value": trip_paper(*right.values())}, {**both, "value": []}),
        (end_lots, {"hall": tee()}, {"hall": WRONG_HALL}),
        (exchange_moves, {"hall": read_drawing("P..H\n#S##"), "standing": FULL, "one": 1, "other": 6},
         {"hall": WRONG_HALL, "standing": WRONG_STANDING[:5], "one": robots, "other": robots}),
    ]


def passing_calls():
    right = {"routes": ROUTES, "passings": PASSINGS}
    wrongs = {"routes": WRONG_ROUTES, "passings": WRONG_PASSINGS}
    return [
        (need_routes, {"hall": hall(), "value": HALL_ROUTES}, {"hall": WRONG_HALL, "value": WRONG_HALL_ROUTES}),
        (need_passings, {"routes": ROUTES, "value": PASSINGS}, {"routes": WRONG_ROUTES, "value": WRONG_PASSINGS}),
        (plan_routes, {"plan": PLAN}, {"plan": wrong(
            no_sequences() + [(), ((),), ((1,), (1, 2)), ((True,),), ((1,), None), (1,)], InvalidPlan, -1)}),
        (plan_passings, {"hall": hall(), "plan": PLAN}, {"hall": WRONG_HALL, "plan": WRONG_PLAN}),
        (order_pairs, right, wrongs),
        (passing_web, right, wrongs),
        (passing_paper, right, wrongs),
        (passing_holds, {**right, "value": passing_paper(ROUTES, PASSINGS)}, {**wrongs, "value": []}),
        (strict_plan, right, wrongs),
    ]


def row_calls():
    rows = {"hall": task_hall(), "task": TASK, "ticks": 2}
    wrong_rows = {"hall": WRONG_HALL, "task": WRONG_TASK, "ticks": wrong(no_numbers_below(41), InvalidSize, "ticks")}
    return [
        (most_rows, rows, wrong_rows),
        (rows_hold, {**rows, "value": most_rows(*rows.values())}, {**wrong_rows, "value": []}),
        (ranked_plan, {"hall": task_hall(), "task": TASK, "ranks": (1, 0)}, {
            "hall": WRONG_HALL, "task": WRONG_TASK,
            "ranks": wrong(no_sequences() + [(), (0,), (0, 0), (0, 2), (0, True), (0, 1, 2)], InvalidTask, -1)}),
        (rank_bound, {"hall": hall(), "robots": 3}, {"hall": WRONG_HALL, "robots": wrong(NO_NUMBERS, InvalidSize, "robots")}),
        (Desk, {}, {}),
    ]
