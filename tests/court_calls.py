"""Right and wrong arguments of the functions of blocks, charge, court, plans, worlds and yards, and of Live."""

from nobodymeets.blocks import (block_tree, blocks_between, joined_blocks, plain_blocks, split_blocks, tie_blocks)
from nobodymeets.charge import (charger_comings, charger_steps, latest_turn, least_full, served_holds, served_paper)
from nobodymeets.court import court_holds, court_paper, end_cells, errand_most, errand_way, is_open
from nobodymeets.errors import (InvalidBlocks, InvalidHolds, InvalidIndex, InvalidLot, InvalidPlan, InvalidRobots,
                                InvalidScript, InvalidSize, InvalidTask, InvalidWay, NoRobot, Refused)
from nobodymeets.halls import read_drawing
from nobodymeets.lanes import LaneMap
from nobodymeets.live import Live
from nobodymeets.plans import (joint_plan, moves_plan, need_task, plan_clash, plan_costs, plan_holds, single_moves)
from nobodymeets.worlds import (free_cells, is_leg, need_holds, need_plan, need_robots, need_script, need_way,
                                robots_meet, unheld_cell, way_of)
from nobodymeets.yards import yard_goings, yard_gone, yard_holds, yard_knot, yard_paper
from tests.calls import STANDING, WRONG_HALL, WRONG_LANES, WRONG_STANDING, hall, wrong, wrong_index
from tests.helpers import no_integers, no_numbers_below, no_sequences, odd_values

BLOCKS = (((0, 1), (0, 2), (1, 2)), ((2, 3),))
WAY = (0, 1, 2)
PLAN = ((0, 1, 1), (2, 2, 2))
TASK = ((0, 2), (1, 2))
ROBOTS = (((0, 1), -1, 3, 0),)
HOLDS = ((0, 0), (1, 0))
SCRIPT = ((("take", 3), ("fall",)), (), (("put", 0, 2), ("order", 4, ((0, 1), (2, 2)))))
WORDS = (("errand", (2,)), ("deal",), ("start", 0), ("come", 0))

NO_COUNTS = no_integers() + [0, -1, -10 ** 9]
NO_NUMBERS = no_integers() + [-1, -10 ** 9]
WRONG_BLOCKS = wrong(no_sequences() + [((),), (None,), (((1, 0),),), (((0, 1), (0, 2)),), (((0, True),),), ((0, 1),)],
                     InvalidBlocks, -1)
WRONG_WAY = wrong(no_sequences() + [(), []], InvalidWay, -1) + wrong([(0, 2), (0, 0), (0, None), [0, True]], InvalidWay, 1)
WRONG_PLAN = wrong(no_sequences() + [(), []], InvalidPlan, -1) + wrong(
    [((0, 1), row) for row in odd_values() + [(2,), (2, 0), (2, 2, 2), (True, 2)] if row != ((0, 0),)], InvalidPlan, 1)
WRONG_TASK = wrong(odd_values() + [((0,), ()), ((), ()), ((0,), (1, 2))], InvalidTask, -1) + wrong(
    [((0, 0), (1, 2)), ((0, 1), (2, 2)), ((0, 7), (1, 2)), ((0, 1), (2, None))], InvalidTask, 1)
WRONG_ROBOTS = wrong(no_sequences(), InvalidRobots, -1) + wrong(
    [ROBOTS + (robot,) for robot in odd_values() + list(ROBOTS)], InvalidRobots, 1)
WRONG_HOLDS = wrong(no_sequences(), InvalidHolds, -1) + wrong(
    [((1, 0), pair) for pair in odd_values() + [(1, 0), (2, 1), (0, 0), (2,), (9, 0)]], InvalidHolds, 1)
WRONG_MANY = wrong(NO_NUMBERS, InvalidSize, "robots")
WRONG_FULL = wrong(NO_COUNTS, InvalidSize, "full")


def park_hall():
    return read_drawing("P.H\nP.S")


def charged():
    return read_drawing("C.P")


def task_hall():
    return read_drawing("...")


def wide():
    return LaneMap((2, 3, 2), ((0, 1), (1, 2), (2, 0)))


def live():
    """A house by hand in which some words were done."""
    made = Live(hall(), (0,))
    for word in WORDS:
        made.do_word(word)
    return made


def live_methods():
    """As methods() of calls."""
    robots = [(value, NoRobot, value) for value in no_numbers_below(1)]
    return [
        (live(), "all_places", {}, {}),
        (live(), "places_at", {"number": 4}, {"number": wrong_index(5)}),
        (live(), "told_if", {"number": 2, "word": ("break", 0)}, {"number": wrong_index(4)}),
        (live(), "wait_chain", {"robot": 0}, {"robot": robots}),
    ]


def court_calls():
    """For each function: its right arguments by name, and what wrong ones raise."""
    return block_calls() + world_calls() + open_calls() + plan_calls() + yard_calls() + charge_calls()


def block_calls():
    unlike = {"one": wrong(NO_NUMBERS + [3], Refused, -1), "other": wrong(NO_NUMBERS + [0], Refused, -1)}
    between = {"blocks": BLOCKS, "one": 0, "other": 3}
    return [
        (tie_blocks, {"hall": hall()}, {"hall": WRONG_HALL}),
        (plain_blocks, {"hall": hall()}, {"hall": WRONG_HALL}),
        (block_tree, {"blocks": BLOCKS}, {"blocks": WRONG_BLOCKS}),
        (blocks_between, between, {"blocks": WRONG_BLOCKS, **unlike}),
        (joined_blocks, between, {"blocks": WRONG_BLOCKS, **unlike}),
        (split_blocks, {"blocks": BLOCKS, "one": 2, "other": 3},
         {"blocks": WRONG_BLOCKS, "one": wrong(NO_NUMBERS, Refused, -1), "other": wrong(NO_NUMBERS, Refused, -1)}),
    ]


def world_calls():
    robots = {"hall": park_hall(), "full": 4, "robots": ROBOTS}
    wrong_robots = {"hall": WRONG_HALL, "full": WRONG_FULL, "robots": WRONG_ROBOTS}
    no_scripts = wrong(no_sequences(), InvalidScript, -1) + wrong(
        [((), (word,)) for word in odd_values() + [("start", 1), ("order", 2, ((0, 1),)), ("rise", 0)]]
        + [((), words) for words in no_sequences()], InvalidScript, 1)
    return [
        (free_cells, {"hall": hall()}, {"hall": WRONG_HALL}),
        (need_way, {"hall": hall(), "value": WAY}, {"hall": WRONG_HALL, "value": WRONG_WAY}),
        (is_leg, {"hall": hall(), "way": WAY}, {"hall": WRONG_HALL, "way": WRONG_WAY}),
        (need_plan, {"hall": hall(), "value": PLAN}, {"hall": WRONG_HALL, "value": WRONG_PLAN}),
        (way_of, {"row": (0, 0, 1, 1, 0)}, {"row": []}),
        (need_robots, {"hall": park_hall(), "full": 4, "value": ROBOTS},
         {"hall": WRONG_HALL, "full": WRONG_FULL, "value": WRONG_ROBOTS}),
        (need_holds, {"hall": hall(), "many": 1, "value": HOLDS},
         {"hall": WRONG_HALL, "many": WRONG_MANY, "value": WRONG_HOLDS}),
        (robots_meet, robots, wrong_robots),
        (unheld_cell, {**robots, "holds": HOLDS[:1]}, {**wrong_robots, "holds": WRONG_HOLDS}),
        (need_script, {"hall": read_drawing("P.H.S"), "many": 1, "value": SCRIPT},
         {"hall": WRONG_HALL, "many": WRONG_MANY, "value": no_scripts}),
    ]


def open_calls():
    return [
        (end_cells, {"hall": hall()}, {"hall": WRONG_HALL}),
        (court_paper, {"hall": hall()}, {"hall": WRONG_HALL}),
        (is_open, {"hall": hall()}, {"hall": WRONG_HALL}),
        (court_holds, {"hall": hall(), "value": court_paper(hall())}, {"hall": WRONG_HALL, "value": []}),
        (errand_way, {"hall": hall(), "robots": (2,), "robot": 0, "errand": (0, 2)}, {
            "hall": WRONG_HALL,
            "robots": wrong(no_sequences(), InvalidRobots, -1) + wrong(
                [(2, value) for value in no_numbers_below(4) + [1, 2, 3]], InvalidRobots, 1),
            "robot": [(value, NoRobot, value) for value in no_numbers_below(1)],
            "errand": wrong(no_sequences(), InvalidLot, -1) + wrong(
                [(0, value) for value in no_numbers_below(4) + [0, 1, 3]], InvalidLot, 1)}),
        (errand_most, {"hall": hall(), "many": 3}, {"hall": WRONG_HALL, "many": wrong(NO_NUMBERS, InvalidSize, "ends")}),
    ]


def plan_calls():
    task = {"hall": task_hall(), "task": TASK}
    wrong_task = {"hall": WRONG_HALL, "task": WRONG_TASK}
    return [
        (need_task, {"hall": task_hall(), "value": TASK}, {"hall": WRONG_HALL, "value": WRONG_TASK}),
        (plan_clash, {"hall": hall(), "plan": PLAN}, {"hall": WRONG_HALL, "plan": WRONG_PLAN}),
        (plan_holds, {**task, "value": PLAN}, {**wrong_task, "value": []}),
        (plan_costs, {"plan": PLAN}, {"plan": wrong(
            no_sequences() + [(), ((),), ((1,), (1, 2)), ((True,),), ((1,), None), (1,)], InvalidPlan, -1)}),
        (joint_plan, task, wrong_task),
        (single_moves, {"hall": hall(), "plan": PLAN}, {"hall": WRONG_HALL, "plan": WRONG_PLAN}),
        (moves_plan, {**task, "moves": ((0, 1),)}, {**wrong_task, "moves": wrong(no_sequences(), Refused, -1) + wrong(
            [((0, 1), move) for move in odd_values() + [(1, 1), (0, 2)]], Refused, 1)}),
    ]


def yard_calls():
    yard = {"lanes": wide(), "standing": STANDING}
    wrongs = {"lanes": WRONG_LANES, "standing": WRONG_STANDING}
    return [
        (yard_knot, yard, wrongs),
        (yard_goings, yard, wrongs),
        (yard_gone, {**yard, "going": (1, 0)}, {**wrongs, "going": wrong(
            odd_values() + [(0, 1), (3, 0), (0, True), [0]], InvalidIndex, -1)}),
        (yard_paper, yard, wrongs),
        (yard_holds, {**yard, "value": yard_paper(wide(), STANDING)}, {**wrongs, "value": []}),
    ]


def charge_calls():
    full = {"hall": charged(), "full": 4}
    wrong_full = {"hall": WRONG_HALL, "full": WRONG_FULL}
    return [
        (charger_steps, {"hall": charged()}, {"hall": WRONG_HALL}),
        (charger_comings, {"hall": charged()}, {"hall": WRONG_HALL}),
        (latest_turn, {"hall": charged(), "way": WAY, "charge": 3},
         {"hall": WRONG_HALL, "way": WRONG_WAY, "charge": wrong(NO_NUMBERS, InvalidSize, "charge")}),
        (served_paper, full, wrong_full),
        (served_holds, {**full, "value": served_paper(charged(), 4)}, {**wrong_full, "value": []}),
        (least_full, {"hall": charged()}, {"hall": WRONG_HALL}),
        (Live, {"hall": hall(), "homes": (0,)}, {
            "hall": WRONG_HALL, "homes": wrong(no_sequences() + [(), (0,) * 7], InvalidRobots, -1)}),
    ]
