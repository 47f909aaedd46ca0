"""The interface: each name in its file, with its parameters, defaults and methods."""

import importlib
import inspect
import unittest

from tests.test_basics import ALL_CALLS

FUNCTIONS = {
    "dealing": {
        "least_dealing": "(table)", "dealing_holds": "(table, value)", "soonest_dealing": "(table)",
        "soonest_holds": "(table, value)", "robot_in": "(table, value, costs)", "robot_out": "(table, value, robot)",
        "job_in": "(table, value, costs)", "job_out": "(table, value, job)",
    },
    "halls": {
        "put_way": "(hall, one, other)", "take_way": "(hall, one, other)", "lose_cells": "(hall, cells)",
        "change_kind": "(hall, cell, kind)", "read_drawing": "(text)", "hall_text": "(hall)",
    },
    "lanes": {
        "need_standing": "(lanes, value)", "possible_goings": "(lanes, standing)",
        "gone_standing": "(lanes, standing, lane)", "goings_left": "(lanes, standing)",
    },
    "letters": {
        "need_letter": "(value, at=-1)", "need_bag": "(value)", "put_letter": "(bag, letter)",
        "letter_at": "(bag, number)", "told_visit": "(visit, modulus)", "next_like": "(told, least, modulus)",
    },
    "house": {"house_again": "(hall, homes, words)"},
    "knots": {
        "find_knot": "(lanes, standing)", "sharing_lanes": "(lanes)", "lane_court": "(lanes)",
        "widened_rooms": "(lanes)", "let_goings": "(lanes, standing)", "safe_paper": "(lanes, standing)",
        "safe_holds": "(lanes, standing, value)",
    },
    "orders": {
        "wave_paper": "(shelves, wanted, knots)", "wave_holds": "(shelves, wanted, value)",
        "pairs_paper": "(shelves, wanted)", "pairs_hold": "(shelves, wanted, value)",
    },
    "pictures": {"hall_picture": "(hall, robots)", "read_picture": "(text)"},
    "pieces": {
        "together_paper": "(hall, one, other)", "together_holds": "(hall, one, other, value)",
        "all_pieces": "(hall)", "parting_cells": "(hall, one, other)", "parts_paper": "(hall, one, other)",
        "parts_holds": "(hall, one, other, value)", "reached_cells": "(hall, cell)", "strong_pieces": "(hall)",
    },
    "prices": {
        "prices_hold": "(table, prices)", "least_prices": "(table)", "greatest_prices": "(table)",
        "mixed_prices": "(table, prices, others)", "power_table": "(table)", "fairest_dealing": "(table)",
        "fairest_holds": "(table, value)", "way_table": "(hall, starts, goals)",
    },
    "standings": {
        "home_tree": "(hall, one)", "standing_paper": "(hall, one, other)",
        "standing_holds": "(hall, one, other, value)", "turned_count": "(hall, standing)",
        "standing_count": "(hall, standing)",
    },
    "stations": {
        "row_carries": "(homes, orders, slots)", "apart_orders": "(homes, orders, slots, shelf)",
        "carries_serve": "(homes, orders, slots, value)", "made_carries": "(shelves, homes, orders, slots)",
        "carries_fault": "(shelves, orders, slots, value)",
    },
    "stock": {
        "begin_book": "(shelves)", "book_after": "(book, deeds)", "promise_paper": "(stock, comings, wants)",
        "promise_holds": "(stock, comings, wants, value)",
        "earliest_moment": "(stock, comings, wants, good, count)", "give_till": "(lots, line)",
        "till_paper": "(lots, lines)", "till_holds": "(lots, lines, value)",
        "spoilt_line": "(lots, line, gifts)",
    },
    "worlds": {
        "free_cells": "(hall)", "need_way": "(hall, value)", "is_leg": "(hall, way)", "need_plan": "(hall, value)",
        "way_of": "(row)", "need_robots": "(hall, full, value)", "need_holds": "(hall, many, value)",
        "robots_meet": "(hall, full, robots)", "unheld_cell": "(hall, full, robots, holds)",
        "need_script": "(hall, many, value)",
    },
    "yards": {
        "yard_knot": "(lanes, standing)", "yard_goings": "(lanes, standing)", "yard_gone": "(lanes, standing, going)",
        "yard_paper": "(lanes, standing)", "yard_holds": "(lanes, standing, value)",
    },
    "blocks": {
        "plain_blocks": "(hall)", "tie_blocks": "(hall)", "block_tree": "(blocks)",
        "blocks_between": "(blocks, one, other)", "joined_blocks": "(blocks, one, other)",
        "split_blocks": "(blocks, one, other)",
    },
    "charge": {
        "charger_steps": "(hall)", "charger_comings": "(hall)", "latest_turn": "(hall, way, charge)",
        "served_paper": "(hall, full)", "served_holds": "(hall, full, value)", "least_full": "(hall)",
    },
    "court": {
        "end_cells": "(hall)", "court_paper": "(hall)", "is_open": "(hall)", "court_holds": "(hall, value)",
        "errand_way": "(hall, robots, robot, errand)", "errand_most": "(hall, many)",
    },
    "plans": {
        "need_task": "(hall, value)", "plan_clash": "(hall, plan)", "plan_holds": "(hall, task, value)",
        "plan_costs": "(plan)", "joint_plan": "(hall, task)", "single_moves": "(hall, plan)",
        "moves_plan": "(hall, task, moves)",
    },
    "stretches": {
        "room_at": "(stretches, tick)", "is_free_at": "(stretches, tick)", "free_but": "(ticks, since=None)",
        "both_free": "(one, other)", "either_free": "(one, other)", "shorten_ends": "(stretches, late)",
        "late_free": "(hall, free, late)", "free_of": "(hall, plan)",
    },
    "flows": {"most_rows": "(hall, task, ticks)", "rows_hold": "(hall, task, ticks, value)"},
    "opened": {
        "lost_paper": "(hall, lost)", "needful_pair": "(hall, cell)", "needful_cells": "(hall)",
        "kept_paper": "(hall, kept)", "greatest_ends": "(hall, must)", "more_ends": "(hall)",
        "many_paper": "(hall, robots)", "many_holds": "(hall, robots, value)", "most_robots": "(hall)",
    },
    "parked": {
        "trip_paper": "(hall, one, other)", "trips_hold": "(hall, one, other, value)", "end_lots": "(hall)",
        "exchange_moves": "(hall, standing, one, other)",
    },
    "passings": {
        "need_routes": "(hall, value)", "need_passings": "(routes, value)", "plan_routes": "(plan)",
        "plan_passings": "(hall, plan)", "order_pairs": "(routes, passings)", "passing_web": "(routes, passings)",
        "passing_paper": "(routes, passings)", "passing_holds": "(routes, passings, value)",
        "strict_plan": "(routes, passings)",
    },
    "ranked": {"ranked_plan": "(hall, task, ranks)", "rank_bound": "(hall, robots)"},
    "stops": {
        "stop_run": "(hall, full, gain, cell, charge, ends)", "stop_table": "(hall, full, gain, cell, charge, ends)",
        "stop_holds": "(hall, full, gain, cell, charge, ends, value)",
        "plain_ticks": "(hall, full, gain, cell, charge, ends, most)",
    },
    "streets": {
        "strong_paper": "(hall)", "is_strong_hall": "(hall)", "strong_holds": "(hall, value)",
        "hall_bridges": "(hall)", "two_way_ties": "(hall)", "narrow_ties": "(hall)", "thinned_hall": "(hall)",
        "street_hall": "(hall)",
    },
    "ways": {
        "earliest_comings": "(hall, free, cell, tick)", "coming_bound": "(hall, free, tick)",
        "tick_cells": "(hall, free, cell, tick, last)", "earliest_row": "(hall, free, cell, tick, goal)",
        "row_holds": "(hall, free, tick, value)", "table_holds": "(hall, free, cell, tick, value)",
        "latest_leavings": "(hall, free, goal, tick)", "coming_pieces": "(hall, free, cell, goal, first, last)",
        "late_row": "(row, waits)", "is_late_safe": "(hall, free, tick, row, late)",
    },
    "best": {
        "lone_coming": "(hall, start, goal, barred)", "best_plan": "(hall, task, nodes)",
        "best_holds": "(hall, task, value)",
    },
    "carried": {
        "coming_times": "(routes, passings, times)", "move_slack": "(routes, passings, times, move, coming)",
        "barred_comings": "(routes, passings, robot, visit)", "put_behind": "(routes, passings, robot, cells)",
        "open_before": "(routes, passings, visits, coming)",
    },
    "detours": {
        "greatest_detour": "(hall, marked)", "best_streets": "(hall, nodes)", "detour_holds": "(hall, value)",
    },
    "holds": {
        "known_none": "(routes)", "heard_left": "(routes, known, visit)", "joined_known": "(routes, one, other)",
        "granted_visits": "(routes, passings, known)", "told_holds": "(routes, passings, known)",
        "implied_known": "(routes, passings, known)", "may_stand": "(routes, passings, known, robot)",
    },
    "unnamed": {
        "loose_fault": "(hall, plan)", "turned_plan": "(hall, plan)", "loose_passings": "(hall, plan)",
        "unnamed_paper": "(hall, task)", "unnamed_holds": "(hall, task, value)", "moves_paper": "(hall, task)",
        "moves_hold": "(hall, task, value)",
    },
    "brain": {"plain_carrying": "(routes, passings, log)", "round_meeting": "(modulus)"},
    "broken": {
        "fetch_paper": "(hall, lost, start, goal)", "fetch_holds": "(hall, lost, start, goal, value)",
        "fetch_order": "(hall, lost, start)", "freed_holds": "(hall, lost, start, value)",
        "struck_passings": "(hall, routes, passings, visits, gone, broken)",
        "never_comings": "(hall, routes, passings, visits, gone, broken)",
        "mended_passings": "(hall, routes, passings, visits, gone, broken)",
    },
    "intime": {"within_paper": "(hall, task, ticks)", "within_holds": "(hall, task, ticks, value)"},
    "lifted": {
        "single_ways": "(hall)", "lifted_hall": "(hall, ways)", "turned_hall": "(hall, ways)", "lifted_paper": "(hall)",
        "turning_paper": "(hall)", "lifted_holds": "(hall, value)", "turning_holds": "(hall, value)",
    },
    "records": {"record_holds": "(value)", "make_record": "(word, question)", "wrong_records": "(values)"},
    "exchanged": {
        "common_visits": "(routes, one, other)", "live_lots": "(routes, one, other)",
        "visit_bundles": "(routes, one, other)", "turning_steps": "(routes, one, other, lot, aim)",
        "turned_paper": "(routes, passings, one, other, visits)",
        "turned_holds": "(routes, passings, one, other, visits, value)",
    },
}
CLASSES = {
    ("halls", "Hall"): {
        "__init__": "(self, kinds, ways, places=())", "next_cells": "(self, cell)", "near_cells": "(self, cell)",
        "cells_of": "(self, kind)", "is_two_way": "(self)", "__eq__": None,
    },
    ("lanes", "LaneMap"): {"__init__": "(self, rooms, goings)", "__eq__": None},
    ("house", "House"): {
        "__init__": "(self, hall, homes)", "robot_place": "(self, robot)", "can_start": "(self, robot)",
        "waits_on": "(self, robot)", "moves_left": "(self, number)", "barred_by": "(self, number)",
        "undealt": "(self)", "errand_of": "(self, number)", "do_word": "(self, word)",
    },
    ("live", "Live"): {
        "__init__": "(self, hall, homes)", "do_word": "(self, word)", "undo_word": "(self)", "redo_word": "(self)",
        "all_places": "(self)", "places_at": "(self, number)", "told_if": "(self, number, word)",
        "wait_chain": "(self, robot)",
    },
    ("desk", "Desk"): {"__init__": "(self)", "say": "(self, command)"},
    ("brain", "RadioHall"): {
        "__init__": "(self, routes, passings, brains=1, modulus=0)", "may_begin": "(self, robot)",
        "held_cells": "(self, robot)", "met_cell": "(self)", "do_word": "(self, word)", "sweep_bag": "(self)",
    },
    ("radiohouse", "RadioHouse"): {
        "__init__": "(self, hall, homes, brains=1)", "may_begin": "(self, robot)", "met_cell": "(self)",
        "do_word": "(self, word)", "sweep_bag": "(self)",
    },
    ("carried", "Carrying"): {
        "__init__": "(self, routes, passings)", "may_start": "(self, robot)", "start_robot": "(self, robot)",
        "come_robot": "(self, robot)", "visit_of": "(self, robot)", "held_cells": "(self, robot)", "all_over": "(self)",
    },
}
ATTRIBUTES = {
    ("halls", "Hall"): "kinds ways places cells marks followers neighbours", ("lanes", "LaneMap"): "rooms goings",
    ("house", "House"): "hall homes words", ("live", "Live"): "house hall homes words", ("desk", "Desk"): "live",
    ("carried", "Carrying"): "", ("brain", "RadioHall"): "done gone known bag log", ("radiohouse", "RadioHouse"): "house bag",
}


class InterfaceTest(unittest.TestCase):
    def test_functions(self):
        for file, functions in FUNCTIONS.items():
            module = importlib.import_module("nobodymeets." + file)
            for name, parameters in functions.items():
                function = getattr(module, name)
                self.assertTrue(inspect.isfunction(function), name)
                self.assertEqual(function.__module__, "nobodymeets." + file)
                self.assertEqual(str(inspect.signature(function)), parameters, name)

    def test_classes(self):
        for (file, name), methods in CLASSES.items():
            made = getattr(importlib.import_module("nobodymeets." + file), name)
            self.assertTrue(inspect.isclass(made), name)
            self.assertEqual(made.__module__, "nobodymeets." + file)
            for method, parameters in methods.items():
                self.assertIn(method, vars(made), name)
                if parameters is not None:
                    self.assertEqual(str(inspect.signature(vars(made)[method])), parameters, method)

    def test_attributes(self):
        # Each is set when the object is made, by the right arguments of the tables of calls.
        made = {type(call(**right)): call(**right) for call, right, _ in ALL_CALLS if inspect.isclass(call)}
        self.assertEqual({(kind.__module__.split(".")[1], kind.__name__) for kind in made}, set(CLASSES))
        self.assertEqual(set(ATTRIBUTES), set(CLASSES))
        for kind, thing in made.items():
            for name in ATTRIBUTES[(kind.__module__.split(".")[1], kind.__name__)].split():
                self.assertIn(name, vars(thing), kind)

    def test_each_name_is_called_in_the_tables(self):
        called = {(call.__module__.split(".")[1], call.__name__) for call, _, _ in ALL_CALLS}
        listed = {(file, name) for file, functions in FUNCTIONS.items() for name in functions} | set(CLASSES)
        self.assertEqual(listed - called, set())


if __name__ == "__main__":
    unittest.main()
