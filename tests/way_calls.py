"""Right and wrong arguments of the functions of best, carried, detours, exchanged, stops, streets and ways."""

from nobodymeets.best import best_holds, best_plan, lone_coming
from nobodymeets.carried import Carrying, barred_comings, coming_times, move_slack, open_before, put_behind
from nobodymeets.detours import best_streets, detour_holds, greatest_detour
from nobodymeets.errors import (InvalidCell, InvalidIndex, InvalidLot, InvalidScript, InvalidSize, InvalidWay, NoRobot,
                                Refused)
from nobodymeets.exchanged import (common_visits, live_lots, turned_holds, turned_paper, turning_steps, visit_bundles)
from nobodymeets.halls import read_drawing
from nobodymeets.stops import plain_ticks, stop_holds, stop_run, stop_table
from nobodymeets.streets import (hall_bridges, is_strong_hall, narrow_ties, street_hall, strong_holds, strong_paper,
                                 thinned_hall, two_way_ties)
from nobodymeets.ways import (coming_bound, coming_pieces, earliest_comings, earliest_row, is_late_safe, late_row,
                              latest_leavings, row_holds, table_holds, tick_cells)
from tests.calls import WRONG_HALL, hall, wrong, wrong_cells
from tests.court_calls import NO_COUNTS, NO_NUMBERS, TASK, WRONG_FULL, WRONG_TASK, task_hall
from tests.flow_calls import (FREE, PASSINGS, ROUTES, WRONG_FREE, WRONG_LATE, WRONG_PASSINGS, WRONG_ROUTES, WRONG_TICK)
from tests.helpers import no_integers, no_numbers_below, no_sequences, odd_values

ROBOTS = [(value, NoRobot, value) for value in odd_values() + [2, -1]]
NO_COMINGS = odd_values() + [(0, 0), (0, 3), (2, 1), (0, True), (0,), (0, 1, 1)]
TIMES = ((1, 5), (1, 1))
LOT = ((1, 1),)


def no_pairs():
    """Things that are no pair of numbers."""
    return [value for value in odd_values() if value != (0, 0)] + [(0, 0, 0), (0, True), (0, -1)]


def strong():
    return read_drawing("..\n..")


def way_calls():
    """For each function: its right arguments by name, and what wrong ones raise."""
    return time_calls() + best_calls() + carried_calls() + exchanged_calls() + stop_calls() + street_calls()


def time_calls():
    start = {"hall": hall(), "free": FREE, "cell": 0, "tick": 1}
    wrong_start = {"hall": WRONG_HALL, "free": WRONG_FREE, "cell": wrong_cells(-1), "tick": WRONG_TICK}
    tables = {**start, "value": earliest_comings(*start.values())}
    pieces = {"hall": hall(), "free": FREE, "cell": 0, "goal": 1, "first": 0, "last": 7}
    return [
        (earliest_comings, start, wrong_start),
        (coming_bound, {"hall": hall(), "free": FREE, "tick": 1},
         {"hall": WRONG_HALL, "free": WRONG_FREE, "tick": WRONG_TICK}),
        (tick_cells, {**start, "last": 6}, {**wrong_start, "last": wrong(NO_NUMBERS + [0], InvalidSize, "last")}),
        (earliest_row, {**start, "goal": 1}, {**wrong_start, "cell": wrong_cells(0), "goal": wrong_cells(1)}),
        (row_holds, {"hall": hall(), "free": FREE, "tick": 1, "value": (0, 1, 1)},
         {"hall": WRONG_HALL, "free": WRONG_FREE, "tick": WRONG_TICK, "value": []}),
        (table_holds, tables, {**wrong_start, "value": []}),
        (latest_leavings, {"hall": hall(), "free": FREE, "goal": 1, "tick": 4},
         {"hall": WRONG_HALL, "free": WRONG_FREE, "goal": wrong_cells(-1), "tick": WRONG_TICK}),
        (coming_pieces, pieces, {
            "hall": WRONG_HALL, "free": WRONG_FREE, "cell": wrong_cells(0), "goal": wrong_cells(1),
            "first": wrong(NO_NUMBERS, InvalidSize, "first"), "last": wrong(NO_NUMBERS, InvalidSize, "last")}),
        (late_row, {"row": (0, 1), "waits": (2, 0)}, {
            "row": wrong(no_sequences(), InvalidWay, -1),
            "waits": wrong(no_sequences() + [(), (0,), (0, -1), (0, True)], InvalidSize, "waits")}),
        (is_late_safe, {"hall": hall(), "free": FREE, "tick": 2, "row": (0, 1, 1), "late": 1}, {
            "hall": WRONG_HALL, "free": WRONG_FREE, "tick": WRONG_TICK, "row": wrong(
                no_sequences() + [(), (0, 2), (0, True), (4,)], InvalidWay, -1), "late": WRONG_LATE}),
    ]


def best_calls():
    right = {"hall": task_hall(), "task": TASK}
    wrongs = {"hall": WRONG_HALL, "task": WRONG_TASK}
    bars = wrong(no_sequences(), InvalidIndex, -1) + wrong([((1, 4), value) for value in no_pairs()], InvalidIndex, 1)
    return [
        (lone_coming, {"hall": hall(), "start": 0, "goal": 2, "barred": ((1, 0), (2, 4))},
         {"hall": WRONG_HALL, "start": wrong_cells(0), "goal": wrong_cells(1), "barred": bars}),
        (best_plan, {**right, "nodes": 9}, {**wrongs, "nodes": wrong(NO_COUNTS + [2001], InvalidSize, "nodes")}),
        (best_holds, {**right, "value": best_plan(task_hall(), TASK, 9)}, {**wrongs, "value": []}),
    ]


def carried_calls():
    right = {"routes": ROUTES, "passings": PASSINGS}
    wrongs = {"routes": WRONG_ROUTES, "passings": WRONG_PASSINGS}
    times = wrong(no_sequences() + [(), TIMES[:1]], InvalidScript, -1) + wrong(
        [(TIMES[0], row) for row in odd_values() + [(1,), (1, 0), (1, True)]], InvalidScript, 1)
    return [
        (Carrying, right, wrongs),
        (coming_times, {**right, "times": TIMES}, {**wrongs, "times": times}),
        (move_slack, {**right, "times": TIMES, "move": (0, 1), "coming": (1, 2)}, {
            **wrongs, "times": times, "move": wrong(NO_COMINGS, InvalidIndex, 0),
            "coming": wrong(NO_COMINGS, InvalidIndex, 1)}),
        (barred_comings, {**right, "robot": 0, "visit": 1},
         {**wrongs, "robot": ROBOTS, "visit": wrong(no_numbers_below(3), InvalidIndex, -1)}),
        (put_behind, {**right, "robot": 0, "cells": (1, 0)}, {
            **wrongs, "robot": ROBOTS,
            "cells": wrong(no_sequences() + [(2,), (1, 1), (1, True), (1, -1)], InvalidWay, -1)}),
        (open_before, {**right, "visits": (1, 0), "coming": (1, 1)}, {
            **wrongs, "visits": wrong(no_sequences() + [(), (0,), (0, 3), (0, True), (0, 0, 0)], InvalidIndex, -1),
            "coming": wrong(NO_COMINGS, InvalidIndex, 0)}),
    ]


def exchanged_calls():
    right = {"routes": ROUTES, "one": 0, "other": 1}
    wrongs = {"routes": WRONG_ROUTES, "one": wrong(odd_values() + [2, -1], InvalidIndex, 0),
              "other": wrong(odd_values() + [2, -1, 0], InvalidIndex, 1)}
    lots = [value for value in odd_values() if value not in ((), [])] + [LOT + LOT, ((1, True),), ((0, 0),), LOT + ((0, 0),)]
    turned = {"routes": ROUTES, "passings": PASSINGS, "one": 0, "other": 1, "visits": LOT}
    # Passings are looked at behind the robots, so what they raise is held elsewhere.
    wrong_turned = {**wrongs, "passings": [], "visits": wrong(no_sequences(), InvalidLot, -1) + wrong(
        [LOT + (value,) for value in odd_values() + [(1, 1), (0, 0), (1, True)]], InvalidLot, 1)}
    wrong_turned = {name: wrong_turned[name] for name in turned}
    return [
        (common_visits, right, wrongs),
        (live_lots, right, wrongs),
        (visit_bundles, right, wrongs),
        (turning_steps, {**right, "lot": (), "aim": LOT},
         {**wrongs, "lot": wrong(lots, InvalidLot, 0), "aim": wrong(lots, InvalidLot, 1)}),
        (turned_paper, turned, wrong_turned),
        (turned_holds, {**turned, "value": turned_paper(*turned.values())}, {**wrong_turned, "value": []}),
    ]


def stop_calls():
    right = {"hall": read_drawing("C.P"), "full": 4, "gain": 2, "cell": 0, "charge": 1, "ends": (2, 0)}
    wrongs = {
        "hall": WRONG_HALL, "full": WRONG_FULL, "gain": wrong(NO_COUNTS, InvalidSize, "gain"),
        "cell": wrong(no_numbers_below(3), InvalidCell, -1), "charge": wrong(no_numbers_below(5), InvalidSize, "charge"),
        "ends": wrong(no_sequences(), InvalidLot, -1) + wrong(
            [(2, value) for value in no_integers() + [-1, 3]], InvalidLot, 1)}
    return [
        (stop_run, right, wrongs),
        (stop_table, right, wrongs),
        (stop_holds, {**right, "value": stop_table(*right.values())}, {**wrongs, "value": []}),
        (plain_ticks, {**right, "most": 9}, {**wrongs, "most": wrong(NO_NUMBERS, InvalidSize, "most")}),
    ]


def street_calls():
    found = [(call, {"hall": strong()}, {"hall": WRONG_HALL}) for call in (
        strong_paper, is_strong_hall, hall_bridges, two_way_ties, narrow_ties, thinned_hall, street_hall)]
    return found + [
        (strong_holds, {"hall": strong(), "value": strong_paper(strong())}, {"hall": WRONG_HALL, "value": []}),
        (greatest_detour, {"hall": strong(), "marked": thinned_hall(strong())}, {
            "hall": WRONG_HALL, "marked": WRONG_HALL[:9] + [(read_drawing("."), Refused, -1)] + WRONG_HALL[9:]}),
        (best_streets, {"hall": strong(), "nodes": 31},
         {"hall": WRONG_HALL, "nodes": wrong(NO_COUNTS, InvalidSize, "nodes")}),
        (detour_holds, {"hall": strong(), "value": best_streets(strong(), 31)}, {"hall": WRONG_HALL, "value": []}),
    ]


def way_methods():
    """As methods() of calls."""
    carrying = Carrying(ROUTES, PASSINGS)
    found = [(carrying, name, {"robot": 0}, {"robot": ROBOTS}) for name in ("may_start", "visit_of", "held_cells")]
    return found + [(carrying, "all_over", {}, {})]


# What tells whether any value is a paper, and a question to which none of the odd values is an answer.
WAY_JUDGES = (
    (row_holds, (hall(), ((),) * 4, 0)), (table_holds, (hall(), FREE, 0, 1)), (best_holds, (task_hall(), TASK)),
    (turned_holds, (ROUTES, PASSINGS, 0, 1, LOT)), (stop_holds, (read_drawing("C.P"), 4, 2, 0, 1, (2, 0))),
    (strong_holds, (strong(),)), (detour_holds, (strong(),)),
)
