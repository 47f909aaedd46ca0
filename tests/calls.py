"""Right and wrong arguments of the functions and classes of dealing, halls, house, knots, lanes and letters."""

from nobodymeets.dealing import (dealing_holds, job_in, job_out, least_dealing, robot_in, robot_out, soonest_dealing,
                                 soonest_holds)
from nobodymeets.errors import (InvalidCell, InvalidHall, InvalidIndex, InvalidLanes, InvalidLetter, InvalidLot,
                                InvalidRobots, InvalidScript, InvalidSize, InvalidStanding, InvalidTable, InvalidText,
                                InvalidTies, NoRobot, Refused)
from nobodymeets.halls import Hall, change_kind, hall_text, lose_cells, put_way, read_drawing, take_way
from nobodymeets.house import House, house_again
from nobodymeets.knots import (find_knot, lane_court, let_goings, safe_holds, safe_paper, sharing_lanes,
                               widened_rooms)
from nobodymeets.lanes import LaneMap, gone_standing, goings_left, need_standing, possible_goings
from nobodymeets.letters import letter_at, need_bag, need_letter, next_like, put_letter, told_visit
from tests.helpers import listed, no_numbers_below, no_sequences, odd_values

KINDS = ("park", "free", "shelf", "free")
WAYS = ((0, 1), (1, 0), (1, 2), (2, 1), (3, 1))
PLACES = ((0, 0), (1, 0), (2, 0), (1, 1))
TABLE = ((1, 5, 9), (2, 9, None))
PAPER = ("dealt", (1, 0), (4, 0, 0))
STANDING = (((1, 2),), ((2, 0),), ())
BAG = (("left", 0, 0), ("hold", 1, 2))
WORDS = (("errand", (2,)), ("deal",), ("start", 0), ("come", 0))


def hall():
    return Hall(KINDS, WAYS, PLACES)


def lanes():
    return LaneMap((1, 1, 2), ((0, 1), (1, 2), (2, 0)))


def no_halls():
    return [value for value in odd_values() if not isinstance(value, Hall)]


def no_maps():
    return [value for value in odd_values() if not isinstance(value, LaneMap)]


def wrong(values, error, kept):
    return [(value, error, kept) for value in values]


WRONG_HALL = wrong(no_halls(), InvalidHall, -1)
WRONG_LANES = wrong(no_maps(), InvalidLanes, -1)
WRONG_TABLE = wrong(no_sequences() + [(), []], InvalidTable, -1) + wrong([((),), ((True,),)], InvalidTable, 0)
WRONG_PAPER = wrong(odd_values() + [listed(PAPER), ("dealt", [1, 0], (4, 0, 0))], Refused, -1)
WRONG_STANDING = wrong(no_sequences() + [(), ((), ())], InvalidStanding, -1)
WRONG_STANDING = WRONG_STANDING + wrong([((), 0, ()), ((), ((0, 0),), 0)], InvalidStanding, 1)
WRONG_BAG = wrong(no_sequences(), InvalidLetter, -1) + wrong([(0,), [None]], InvalidLetter, 0)


def wrong_cells(at):
    return wrong(no_numbers_below(4), InvalidCell, at)


def wrong_index(many):
    return wrong(no_numbers_below(many), InvalidIndex, -1)


def calls():
    """For each function and class: its right arguments by name, and what wrong ones raise."""
    return [
        (Hall, {"kinds": KINDS, "ways": WAYS, "places": PLACES}, {
            "kinds": wrong(no_sequences(), InvalidHall, 0), "ways": wrong(no_sequences(), InvalidHall, 1),
            "places": wrong(no_sequences(), InvalidHall, 2)}),
        (put_way, {"hall": hall(), "one": 1, "other": 3},
         {"hall": WRONG_HALL, "one": wrong_cells(0), "other": wrong_cells(1)}),
        (take_way, {"hall": hall(), "one": 3, "other": 1},
         {"hall": WRONG_HALL, "one": wrong_cells(0), "other": wrong_cells(1)}),
        (lose_cells, {"hall": hall(), "cells": (3, 0)},
         {"hall": WRONG_HALL, "cells": wrong(no_sequences(), InvalidLot, -1)}),
        (change_kind, {"hall": hall(), "cell": 1, "kind": "charger"}, {
            "hall": WRONG_HALL, "cell": wrong_cells(-1),
            "kind": wrong([value for value in odd_values() if value != "free"], InvalidSize, "kind")}),
        (read_drawing, {"text": "P.H"}, {
            "text": wrong([value for value in odd_values() if not isinstance(value, str)], InvalidText, -1)}),
        (hall_text, {"hall": read_drawing("P.H\n.^#")}, {"hall": WRONG_HALL}),
        (least_dealing, {"table": TABLE}, {"table": WRONG_TABLE}),
        (dealing_holds, {"table": TABLE, "value": PAPER}, {"table": WRONG_TABLE, "value": []}),
        (soonest_dealing, {"table": TABLE}, {"table": WRONG_TABLE}),
        (soonest_holds, {"table": TABLE, "value": ("dealt", (1, 0), (0, 1))}, {"table": WRONG_TABLE, "value": []}),
        (robot_in, {"table": TABLE, "value": PAPER, "costs": (0, None, 4)}, {
            "table": WRONG_TABLE, "value": WRONG_PAPER,
            "costs": wrong(odd_values() + [(1, 2), (1, 2, True), (1, 2, 3, 4)], InvalidTable, 2)}),
        (robot_out, {"table": TABLE, "value": PAPER, "robot": 0},
         {"table": WRONG_TABLE, "value": WRONG_PAPER, "robot": wrong_index(2)}),
        (job_in, {"table": TABLE, "value": PAPER, "costs": (0, None)}, {
            "table": WRONG_TABLE, "value": WRONG_PAPER,
            "costs": wrong([value for value in odd_values() if value != ((0, 0),)] + [(1,), (1, 2, 3), (1, True)],
                           InvalidTable, -1)}),
        (job_out, {"table": TABLE, "value": PAPER, "job": 1},
         {"table": WRONG_TABLE, "value": WRONG_PAPER, "job": wrong_index(3)}),
        (LaneMap, {"rooms": (1, 2, 9), "goings": ((2, 0), (0, 1), (2, 0))}, {
            "rooms": wrong(no_sequences() + [(1,) * 13], InvalidLanes, -1) + wrong([(1, 0), (1, 10)], InvalidLanes, 1),
            "goings": wrong(no_sequences(), InvalidTies, -1)}),
        (need_standing, {"lanes": lanes(), "value": STANDING}, {"lanes": WRONG_LANES, "value": WRONG_STANDING}),
        (possible_goings, {"lanes": lanes(), "standing": STANDING},
         {"lanes": WRONG_LANES, "standing": WRONG_STANDING}),
        (gone_standing, {"lanes": lanes(), "standing": STANDING, "lane": 1},
         {"lanes": WRONG_LANES, "standing": WRONG_STANDING, "lane": wrong_index(3)}),
        (goings_left, {"lanes": lanes(), "standing": STANDING}, {"lanes": WRONG_LANES, "standing": WRONG_STANDING}),
        (find_knot, {"lanes": lanes(), "standing": STANDING}, {"lanes": WRONG_LANES, "standing": WRONG_STANDING}),
        (sharing_lanes, {"lanes": lanes()}, {"lanes": WRONG_LANES}),
        (lane_court, {"lanes": lanes()}, {"lanes": WRONG_LANES}),
        (widened_rooms, {"lanes": lanes()}, {"lanes": WRONG_LANES}),
        (let_goings, {"lanes": lanes(), "standing": STANDING}, {"lanes": WRONG_LANES, "standing": WRONG_STANDING}),
        (safe_paper, {"lanes": lanes(), "standing": STANDING}, {"lanes": WRONG_LANES, "standing": WRONG_STANDING}),
        (safe_holds, {"lanes": lanes(), "standing": STANDING, "value": ("out", (1, 0))},
         {"lanes": WRONG_LANES, "standing": WRONG_STANDING, "value": []}),
        (need_letter, {"value": ("left", 0, 3), "at": 7}, {
            "value": wrong(odd_values(), InvalidLetter, 7), "at": []}),
        (need_bag, {"value": BAG}, {"value": WRONG_BAG}),
        (put_letter, {"bag": BAG, "letter": ("hold", 0, 1)},
         {"bag": WRONG_BAG, "letter": wrong(odd_values(), InvalidLetter, -1)}),
        (letter_at, {"bag": BAG, "number": 1}, {"bag": WRONG_BAG, "number": wrong(no_numbers_below(2), InvalidLetter, -1)}),
        (told_visit, {"visit": 11, "modulus": 4}, {"visit": [], "modulus": []}),
        (next_like, {"told": 3, "least": 9, "modulus": 4}, {"told": [], "least": [], "modulus": []}),
        (House, {"hall": hall(), "homes": (0,)}, {
            "hall": WRONG_HALL, "homes": wrong(no_sequences() + [(), (0,) * 7], InvalidRobots, -1)}),
        (house_again, {"hall": hall(), "homes": (0,), "words": WORDS}, {
            "hall": WRONG_HALL, "homes": wrong(no_sequences() + [(), (0,) * 7], InvalidRobots, -1),
            "words": wrong(no_sequences(), InvalidScript, -1)}),
    ]


def methods():
    """Methods of objects: which object, the method's name, its right arguments, and what wrong ones raise."""
    house = house_again(hall(), (0,), WORDS)
    robots = [(value, NoRobot, value) for value in no_numbers_below(1)]
    found = [
        (hall(), "next_cells", {"cell": 1}, {"cell": wrong_cells(-1)}),
        (hall(), "near_cells", {"cell": 1}, {"cell": wrong_cells(-1)}),
        (hall(), "cells_of", {"kind": "free"}, {
            "kind": wrong([value for value in odd_values() if value != "free"], InvalidSize, "kind")}),
        (hall(), "is_two_way", {}, {}),
        (house, "undealt", {}, {}),
    ]
    for name in ("robot_place", "can_start", "waits_on"):
        found.append((house, name, {"robot": 0}, {"robot": robots}))
    for name in ("moves_left", "barred_by", "errand_of"):
        found.append((house, name, {"number": 0}, {"number": wrong_index(1)}))
    return found
