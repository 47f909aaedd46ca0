"""Right and wrong arguments of the functions of brain, broken, holds, intime, lifted, radiohouse, records and unnamed."""

from nobodymeets.brain import RadioHall, plain_carrying, round_meeting
from nobodymeets.broken import (fetch_holds, fetch_order, fetch_paper, freed_holds, mended_passings, never_comings,
                                struck_passings)
from nobodymeets.errors import (InvalidBook, InvalidCell, InvalidIndex, InvalidLetter, InvalidLot, InvalidOrders,
                                InvalidRobots, InvalidScript, InvalidSize, InvalidWays, NoRobot, Refused)
from nobodymeets.halls import read_drawing
from nobodymeets.holds import (granted_visits, heard_left, implied_known, joined_known, known_none, may_stand,
                               told_holds)
from nobodymeets.intime import within_holds, within_paper
from nobodymeets.lifted import (lifted_hall, lifted_holds, lifted_paper, single_ways, turned_hall, turning_holds,
                                turning_paper)
from nobodymeets.radiohouse import RadioHouse
from nobodymeets.records import make_record, record_holds, wrong_records
from nobodymeets.unnamed import (loose_fault, loose_passings, moves_hold, moves_paper, turned_plan, unnamed_holds,
                                 unnamed_paper)
from tests.calls import WRONG_HALL, hall, wrong
from tests.court_calls import PLAN, TASK, WRONG_PLAN, WRONG_TASK, task_hall
from tests.flow_calls import PASSINGS, ROUTES, WRONG_HALL_ROUTES, WRONG_PASSINGS, WRONG_ROUTES
from tests.helpers import no_integers, no_numbers_below, no_sequences, odd_values

KNOWN = (1, 0)
LOG = (("start", 0), ("come", 0), ("start", 0))
LIVE_ROUTES, LIVE_PASSINGS = ((0, 1, 2), (3, 1, 0)), (
    (0, ((0, 0), (1, 2))), (1, ((0, 1), (1, 1))), (2, ((0, 2),)), (3, ((1, 0),)))
BRAINS = wrong(no_integers() + [0, -1, 5], InvalidIndex, 0)


def facts_but(at):
    return wrong(no_sequences() + [(), (0,), (0, 0, 0)], InvalidBook, -1) + wrong(
        [(2, value) for value in no_numbers_below(3)], InvalidBook, at)


WRONG_KNOWN = facts_but(1)


def arrow():
    return read_drawing(">>.")


def radio_calls():
    """For each function: its right arguments by name, and what wrong ones raise."""
    return hold_calls() + unnamed_calls() + brain_calls() + broken_calls() + lifted_calls() + record_calls()


def hold_calls():
    right = {"routes": ROUTES, "passings": PASSINGS, "known": KNOWN}
    wrongs = {"routes": WRONG_ROUTES, "passings": WRONG_PASSINGS, "known": WRONG_KNOWN}
    visits = [value for value in odd_values() if value != (0, 0)] + [(0, 3), (2, 0), (0, -1), (0, True), (0, 0, 0)]
    return [
        (known_none, {"routes": ROUTES}, {"routes": WRONG_ROUTES}),
        (heard_left, {"routes": ROUTES, "known": KNOWN, "visit": (0, 1)},
         {"routes": WRONG_ROUTES, "known": WRONG_KNOWN, "visit": wrong(visits, InvalidIndex, -1)}),
        (joined_known, {"routes": ROUTES, "one": KNOWN, "other": (0, 2)},
         {"routes": WRONG_ROUTES, "one": WRONG_KNOWN, "other": WRONG_KNOWN}),
        (granted_visits, right, wrongs),
        (told_holds, right, wrongs),
        (implied_known, right, wrongs),
        (may_stand, {**right, "robot": 1}, {**wrongs, "robot": wrong(no_numbers_below(2), InvalidIndex, -1)}),
    ]


def unnamed_calls():
    plan = {"hall": task_hall(), "plan": PLAN}
    wrong_plan = {"hall": WRONG_HALL, "plan": WRONG_PLAN}
    task = {"hall": task_hall(), "task": TASK}
    wrong_task = {"hall": WRONG_HALL, "task": WRONG_TASK}
    ticks = {**wrong_task, "ticks": wrong(no_numbers_below(41), InvalidSize, "ticks")}
    return [
        (loose_fault, plan, wrong_plan),
        (turned_plan, plan, wrong_plan),
        (loose_passings, plan, wrong_plan),
        (unnamed_paper, task, wrong_task),
        (unnamed_holds, {**task, "value": unnamed_paper(task_hall(), TASK)}, {**wrong_task, "value": []}),
        (moves_paper, task, wrong_task),
        (moves_hold, {**task, "value": moves_paper(task_hall(), TASK)}, {**wrong_task, "value": []}),
        (within_paper, {**task, "ticks": 2}, ticks),
        (within_holds, {**task, "ticks": 2, "value": within_paper(task_hall(), TASK, 2)}, {**ticks, "value": []}),
    ]


def brain_calls():
    right = {"routes": ROUTES, "passings": PASSINGS}
    wrongs = {"routes": WRONG_ROUTES, "passings": WRONG_PASSINGS}
    steps = [value for value in odd_values()] + [("start",), ("take", 0), ("start", 0, 0)]
    return [
        (RadioHall, {**right, "brains": 2, "modulus": 3}, {
            **wrongs, "brains": BRAINS, "modulus": wrong(no_integers() + [1, -1], InvalidIndex, 1)}),
        (plain_carrying, {**right, "log": LOG}, {
            **wrongs, "log": wrong(no_sequences(), InvalidScript, -1) + wrong(
                [(LOG[0], value) for value in steps], InvalidScript, 1)}),
        (round_meeting, {"modulus": 3}, {"modulus": wrong(no_integers() + [1, 0, -1], InvalidIndex, 1)}),
        (RadioHouse, {"hall": hall(), "homes": (0,), "brains": 2}, {
            "hall": WRONG_HALL, "homes": wrong(no_sequences() + [(), (0,) * 7], InvalidRobots, -1), "brains": BRAINS}),
    ]


def broken_calls():
    lost = wrong(no_sequences(), InvalidLot, -1) + wrong([(3, value) for value in no_numbers_below(4) + [3]], InvalidLot, 1)
    cells = wrong(no_numbers_below(4), InvalidCell, 0)
    goals = wrong(no_numbers_below(4), InvalidCell, 1)
    way = {"hall": hall(), "lost": (3, 1), "start": 0, "goal": 2}
    wrong_way = {"hall": WRONG_HALL, "lost": lost, "start": cells, "goal": goals}
    freed = {"hall": hall(), "lost": (3, 1), "start": 0}
    wrong_freed = {"hall": WRONG_HALL, "lost": lost, "start": cells}
    robots = [(value, NoRobot, value) for value in no_sequences()] + [
        ((1, value), NoRobot, value) for value in no_numbers_below(2)]
    state = {"hall": hall(), "routes": LIVE_ROUTES, "passings": LIVE_PASSINGS, "visits": (1, 0), "gone": (0,),
             "broken": (0,)}
    wrong_state = {
        "hall": WRONG_HALL, "routes": WRONG_HALL_ROUTES, "gone": robots, "broken": robots,
        "passings": wrong(no_sequences(), InvalidOrders, -1) + wrong(
            [LIVE_PASSINGS[:1] + (row,) for row in odd_values()], InvalidOrders, 1),
        "visits": wrong(no_sequences() + [(), (0,)], InvalidIndex, -1) + wrong(
            [(0, value) for value in no_numbers_below(3)], InvalidIndex, 1)}
    wrong_state = {name: wrong_state[name] for name in state}
    found = [(call, state, wrong_state) for call in (struck_passings, never_comings, mended_passings)]
    return found + [
        (fetch_paper, way, wrong_way),
        (fetch_holds, {**way, "value": fetch_paper(*way.values())}, {**wrong_way, "value": []}),
        (fetch_order, freed, wrong_freed),
        (freed_holds, {**freed, "value": fetch_order(*freed.values())}, {**wrong_freed, "value": []}),
    ]


def lifted_calls():
    ways = {"hall": WRONG_HALL, "ways": wrong(no_sequences(), InvalidWays, -1) + wrong(
        [((0, 1), value) for value in odd_values() + [(0, 1), (1, 2), (0, 2), (1, 0)]], InvalidWays, 1)}
    right = {"hall": arrow()}
    wrongs = {"hall": WRONG_HALL}
    return [
        (single_ways, right, wrongs),
        (lifted_hall, {**right, "ways": ((0, 1),)}, ways),
        (turned_hall, {**right, "ways": ((0, 1),)}, ways),
        (lifted_paper, right, wrongs),
        (turning_paper, right, wrongs),
        (lifted_holds, {**right, "value": lifted_paper(arrow())}, {**wrongs, "value": []}),
        (turning_holds, {**right, "value": turning_paper(arrow())}, {**wrongs, "value": []}),
    ]


def record_calls():
    record = make_record("together", (hall(), 0, 3))
    return [
        (record_holds, {"value": record}, {"value": []}),
        (make_record, {"word": "together", "question": (hall(), 0, 3)}, {
            "word": wrong(odd_values(), Refused, "word"),
            "question": wrong(no_sequences() + [(), (hall(), 0)], Refused, "question")}),
        (wrong_records, {"values": (record, 7)}, {"values": wrong(no_sequences(), Refused, "records")}),
    ]


def radio_methods():
    """As methods() of calls."""
    robots = [(value, NoRobot, value) for value in odd_values() + [2, -1]]
    radio = RadioHall(ROUTES, PASSINGS)
    whole = RadioHouse(hall(), (0,))
    words = wrong([value for value in odd_values() if value != [["start", 0]]] + [("take",)], InvalidScript, -1)
    letters = wrong([("take", value) for value in no_numbers_below(3)], InvalidLetter, -1)
    return [
        (radio, "may_begin", {"robot": 0}, {"robot": robots}),
        (radio, "held_cells", {"robot": 0}, {"robot": robots}),
        (radio, "met_cell", {}, {}),
        (radio, "do_word", {"word": ("take", 0)}, {"word": words + letters}),
        (radio, "sweep_bag", {}, {}),
        (whole, "may_begin", {"robot": 0}, {"robot": robots[:-2]}),
        (whole, "met_cell", {}, {}),
        (whole, "do_word", {"word": ("deal",)}, {"word": words}),
        (whole, "sweep_bag", {}, {}),
    ]


# As WAY_JUDGES.
RADIO_JUDGES = (
    (unnamed_holds, (task_hall(), TASK)), (moves_hold, (task_hall(), TASK)), (within_holds, (task_hall(), TASK, 2)),
    (fetch_holds, (hall(), (3, 1), 0, 2)), (freed_holds, (hall(), (3, 1), 0)), (lifted_holds, (arrow(),)),
    (turning_holds, (arrow(),)), (record_holds, ()),
)
