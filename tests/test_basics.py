"""[1], [2], [3]: what holds for each function and class of these modules."""

import inspect

from nobodymeets.dealing import (dealing_holds, job_in, job_out, least_dealing, robot_in, robot_out, soonest_dealing,
                                 soonest_holds)
from nobodymeets.errors import (InvalidCell, InvalidHall, InvalidIndex, InvalidLanes, InvalidLetter, InvalidLot,
                                InvalidRobots, InvalidScript, InvalidSize, InvalidStanding, InvalidTable, InvalidText,
                                InvalidTies, NoRobot, Refused)
from nobodymeets.halls import Hall, change_kind, hall_text, lose_cells, put_way, read_drawing, take_way
from nobodymeets.house import House, house_again
from nobodymeets.knots import (find_knot, lane_court, let_goings, safe_holds, safe_paper, sharing_lanes,
                               widened_rooms)
from nobodymeets.lanes import LaneMap, gone_standing, goings_left, need_standing, possible_goings
from nobodymeets.letters import letter_at, need_bag, need_letter, next_like, put_letter, told_visit
from tests.helpers import (PromiseCase, is_tupled, listed, no_integers, no_numbers_below, no_sequences, odd_values,
                           same, shape, tupled)

KINDS = ("park", "free", "shelf", "free")
WAYS = ((0, 1), (1, 0), (1, 2), (2, 1), (3, 1))
PLACES = ((0, 0), (1, 0), (2, 0), (1, 1))
TABLE = ((1, 5, 9), (2, 9, None))
PAPER = ("dealt", (1, 0), (4, 0, 0))
STANDING = (((1, 2),), ((2, 0),), ())
BAG = (("left", 0, 0), ("hold", 1, 2))
WORDS = (("errand", (2,)), ("deal",), ("start", 0), ("come", 0))


def hall():
    return Hall(KINDS, WAYS, PLACES)


def lanes():
    return LaneMap((1, 1, 2), ((0, 1), (1, 2), (2, 0)))


def no_halls():
    return [value for value in odd_values() if not isinstance(value, Hall)]


def no_maps():
    return [value for value in odd_values() if not isinstance(value, LaneMap)]


def wrong(values, error, kept):
    return [(value, error, kept) for value in values]


WRONG_HALL = wrong(no_halls(), InvalidHall, -1)
WRONG_LANES = wrong(no_maps(), InvalidLanes, -1)
WRONG_TABLE = wrong(no_sequences() + [(), []], InvalidTable, -1) + wrong([((),), ((True,),)], InvalidTable, 0)
WRONG_PAPER = wrong(odd_values() + [listed(PAPER), ("dealt", [1, 0], (4, 0, 0))], Refused, -1)
WRONG_STANDING = wrong(no_sequences() + [(), ((), ())], InvalidStanding, -1)
WRONG_STANDING = WRONG_STANDING + wrong([((), 0, ()), ((), ((0, 0),), 0)], InvalidStanding, 1)
WRONG_BAG = wrong(no_sequences(), InvalidLetter, -1) + wrong([(0,), [None]], InvalidLetter, 0)


def wrong_cells(at):
    return wrong(no_numbers_below(4), InvalidCell, at)


def wrong_index(many):
    return wrong(no_numbers_below(many), InvalidIndex, -1)


def calls():
    """For each function and class: its right arguments by name, and what wrong ones raise."""
    return [
        (Hall, {"kinds": KINDS, "ways": WAYS, "places": PLACES}, {
            "kinds": wrong(no_sequences(), InvalidHall, 0), "ways": wrong(no_sequences(), InvalidHall, 1),
            "places": wrong(no_sequences(), InvalidHall, 2)}),
        (put_way, {"hall": hall(), "one": 1, "other": 3},
         {"hall": WRONG_HALL, "one": wrong_cells(0), "other": wrong_cells(1)}),
        (take_way, {"hall": hall(), "one": 3, "other": 1},
         {"hall": WRONG_HALL, "one": wrong_cells(0), "other": wrong_cells(1)}),
        (lose_cells, {"hall": hall(), "cells": (3, 0)},
         {"hall": WRONG_HALL, "cells": wrong(no_sequences(), InvalidLot, -1)}),
        (change_kind, {"hall": hall(), "cell": 1, "kind": "charger"}, {
            "hall": WRONG_HALL, "cell": wrong_cells(-1),
            "kind": wrong([value for value in odd_values() if value != "free"], InvalidSize, "kind")}),
        (read_drawing, {"text": "P.H"}, {
            "text": wrong([value for value in odd_values() if not isinstance(value, str)], InvalidText, -1)}),
        (hall_text, {"hall": read_drawing("P.H\n.^#")}, {"hall": WRONG_HALL}),
        (least_dealing, {"table": TABLE}, {"table": WRONG_TABLE}),
        (dealing_holds, {"table": TABLE, "value": PAPER}, {"table": WRONG_TABLE, "value": []}),
        (soonest_dealing, {"table": TABLE}, {"table": WRONG_TABLE}),
        (soonest_holds, {"table": TABLE, "value": ("dealt", (1, 0), (0, 1))}, {"table": WRONG_TABLE, "value": []}),
        (robot_in, {"table": TABLE, "value": PAPER, "costs": (0, None, 4)}, {
            "table": WRONG_TABLE, "value": WRONG_PAPER,
            "costs": wrong(odd_values() + [(1, 2), (1, 2, True), (1, 2, 3, 4)], InvalidTable, 2)}),
        (robot_out, {"table": TABLE, "value": PAPER, "robot": 0},
         {"table": WRONG_TABLE, "value": WRONG_PAPER, "robot": wrong_index(2)}),
        (job_in, {"table": TABLE, "value": PAPER, "costs": (0, None)}, {
            "table": WRONG_TABLE, "value": WRONG_PAPER,
            "costs": wrong([value for value in odd_values() if value != ((0, 0),)] + [(1,), (1, 2, 3), (1, True)],
                           InvalidTable, -1)}),
        (job_out, {"table": TABLE, "value": PAPER, "job": 1},
         {"table": WRONG_TABLE, "value": WRONG_PAPER, "job": wrong_index(3)}),
        (LaneMap, {"rooms": (1, 2, 9), "goings": ((2, 0), (0, 1), (2, 0))}, {
            "rooms": wrong(no_sequences() + [(1,) * 13], InvalidLanes, -1) + wrong([(1, 0), (1, 10)], InvalidLanes, 1),
            "goings": wrong(no_sequences(), InvalidTies, -1)}),
        (need_standing, {"lanes": lanes(), "value": STANDING}, {"lanes": WRONG_LANES, "value": WRONG_STANDING}),
        (possible_goings, {"lanes": lanes(), "standing": STANDING},
         {"lanes": WRONG_LANES, "standing": WRONG_STANDING}),
        (gone_standing, {"lanes": lanes(), "standing": STANDING, "lane": 1},
         {"lanes": WRONG_LANES, "standing": WRONG_STANDING, "lane": wrong_index(3)}),
        (goings_left, {"lanes": lanes(), "standing": STANDING}, {"lanes": WRONG_LANES, "standing": WRONG_STANDING}),
        (find_knot, {"lanes": lanes(), "standing": STANDING}, {"lanes": WRONG_LANES, "standing": WRONG_STANDING}),
        (sharing_lanes, {"lanes": lanes()}, {"lanes": WRONG_LANES}),
        (lane_court, {"lanes": lanes()}, {"lanes": WRONG_LANES}),
        (widened_rooms, {"lanes": lanes()}, {"lanes": WRONG_LANES}),
        (let_goings, {"lanes": lanes(), "standing": STANDING}, {"lanes": WRONG_LANES, "standing": WRONG_STANDING}),
        (safe_paper, {"lanes": lanes(), "standing": STANDING}, {"lanes": WRONG_LANES, "standing": WRONG_STANDING}),
        (safe_holds, {"lanes": lanes(), "standing": STANDING, "value": ("out", (1, 0))},
         {"lanes": WRONG_LANES, "standing": WRONG_STANDING, "value": []}),
        (need_letter, {"value": ("left", 0, 3), "at": 7}, {
            "value": wrong(odd_values(), InvalidLetter, 7), "at": []}),
        (need_bag, {"value": BAG}, {"value": WRONG_BAG}),
        (put_letter, {"bag": BAG, "letter": ("hold", 0, 1)},
         {"bag": WRONG_BAG, "letter": wrong(odd_values(), InvalidLetter, -1)}),
        (letter_at, {"bag": BAG, "number": 1}, {"bag": WRONG_BAG, "number": wrong(no_numbers_below(2), InvalidLetter, -1)}),
        (told_visit, {"visit": 11, "modulus": 4}, {"visit": [], "modulus": []}),
        (next_like, {"told": 3, "least": 9, "modulus": 4}, {"told": [], "least": [], "modulus": []}),
        (House, {"hall": hall(), "homes": (0,)}, {
            "hall": WRONG_HALL, "homes": wrong(no_sequences() + [(), (0,) * 7], InvalidRobots, -1)}),
        (house_again, {"hall": hall(), "homes": (0,), "words": WORDS}, {
            "hall": WRONG_HALL, "homes": wrong(no_sequences() + [(), (0,) * 7], InvalidRobots, -1),
            "words": wrong(no_sequences(), InvalidScript, -1)}),
    ]


def methods():
    """Methods of objects: which object, the method's name, its right arguments, and what wrong ones raise."""
    house = house_again(hall(), (0,), WORDS)
    robots = [(value, NoRobot, value) for value in no_numbers_below(1)]
    found = [
        (hall(), "next_cells", {"cell": 1}, {"cell": wrong_cells(-1)}),
        (hall(), "near_cells", {"cell": 1}, {"cell": wrong_cells(-1)}),
        (hall(), "cells_of", {"kind": "free"}, {
            "kind": wrong([value for value in odd_values() if value != "free"], InvalidSize, "kind")}),
        (hall(), "is_two_way", {}, {}),
        (house, "undealt", {}, {}),
    ]
    for name in ("robot_place", "can_start", "waits_on"):
        found.append((house, name, {"robot": 0}, {"robot": robots}))
    for name in ("moves_left", "barred_by", "errand_of"):
        found.append((house, name, {"number": 0}, {"number": wrong_index(1)}))
    return found


def seen(value):
    """A result in a form that can be compared: what an object of the package tells of itself."""
    if isinstance(value, Hall):
        return ("hall", value.kinds, value.ways, value.places)
    if isinstance(value, LaneMap):
        return ("lanes", value.rooms, value.goings)
    if isinstance(value, House):
        return ("house", value.homes, value.words, [value.robot_place(robot) for robot in range(len(value.homes))])
    return value


class BasicsTest(PromiseCase):
    def test_lists_for_tuples_names_for_places_and_again(self):
        papers = (dealing_holds, soonest_holds, robot_in, robot_out, job_in, job_out, safe_holds)
        for call, right, _ in calls():
            first = seen(call(*right.values()))
            lists = {name: listed(value) for name, value in right.items()}
            if call in papers:
                lists["value"] = right["value"]
            for again in (call(**right), call(*lists.values()), call(**lists), call(*right.values())):
                self.assertTrue(same(seen(again), first), (call, seen(again), first))

    def test_results_are_in_tuples_also_within(self):
        for call, right, _ in calls():
            result = call(*[listed(value) if name != "value" or call is need_standing else value
                            for name, value in right.items()])
            for part in vars(result).values() if hasattr(result, "__dict__") else [result]:
                if not isinstance(result, House):
                    self.assertTrue(is_tupled(part), (call, part))
        for made, name, right, _ in methods():
            self.assertTrue(is_tupled(getattr(made, name)(**right)), name)

    def test_arguments_stay_as_they_were(self):
        for call, right, _ in calls():
            for args in ([listed(value) for value in right.values()], [tupled(value) for value in right.values()]):
                before = shape(args)
                try:
                    call(*args)
                except (Refused, InvalidHall):
                    pass
                self.assertEqual(shape(args), before, call)

    def test_wrong_arguments(self):
        for call, right, wrongs in calls():
            self.assertEqual(list(right), list(wrongs), call)
            for name, values in wrongs.items():
                for value, error, kept in values:
                    self.told(error, kept, call, **{**right, name: value})
                    self.told(error, kept, call, *{**right, name: value}.values())

    def test_of_several_wrong_arguments_the_first_ones_error(self):
        for call, right, wrongs in calls():
            names = [name for name in right if wrongs[name]]
            for at, one in enumerate(names):
                value, error, kept = wrongs[one][at]
                for other in names[at + 1:]:
                    self.told(error, kept, call, **{**right, one: value, other: wrongs[other][0][0]})

    def test_methods(self):
        for made, name, right, wrongs in methods():
            method = getattr(made, name)
            self.assertTrue(same(method(**right), method(*right.values())), name)
            for word, values in wrongs.items():
                for value, error, kept in values:
                    self.told(error, kept, method, **{word: value})
                    self.told(error, kept, method, value)

    def test_parameters_are_called_so(self):
        for call, right, _ in calls():
            names = [name for name in inspect.signature(call).parameters if name != "self"]
            self.assertEqual(names, list(right), call)

    def test_any_value_raises_nothing_where_it_is_told_whether_it_holds(self):
        for value in odd_values():
            for item in (value, (value,), [value, value], ("dealt", value), ("dealt", value, value), ("short", value),
                         ("out", value), ("knot", value), ("shut", value), ("shut", (value,))):
                self.assertIs(dealing_holds(TABLE, item), False)
                self.assertIs(soonest_holds(TABLE, item), False)
                self.assertIs(safe_holds(lanes(), STANDING, item), False)

    def test_objects_are_not_iterable_and_have_no_length(self):
        for made in (hall(), lanes(), House(hall(), (0,))):
            self.assertRaises(TypeError, iter, made)
            self.assertRaises(TypeError, len, made)
            self.assertRaises(TypeError, lambda thing=made: 0 in thing)

    def test_objects_with_equality_are_equal_to_nothing_else(self):
        for made in (hall(), lanes()):
            for other in odd_values() + [0, (), (KINDS, WAYS, PLACES)]:
                self.assertIs(made == other, False)
                self.assertIs(made != other, True)
            self.assertIs(made == House(hall(), (0,)), False)
        self.assertIs(hall() == lanes(), False)
        self.assertIs(lanes() == hall(), False)

    def test_later_changes_to_arguments_have_no_effect(self):
        kinds, ways, places = listed(KINDS), listed(WAYS), listed(PLACES)
        made = Hall(kinds, ways, places)
        kinds[0] = "free"
        ways[0][0] = 3
        places.pop()
        self.assertEqual(made, hall())
        rooms, goings = [1, 1, 2], [[0, 1], [1, 2], [2, 0]]
        told = LaneMap(rooms, goings)
        rooms[0] = 7
        goings[0][1] = 2
        self.assertEqual(told, lanes())
        homes, goals = [0], [2]
        house = House(made, homes)
        house.do_word(["errand", goals])
        homes[0] = 1
        goals[0] = 0
        self.assertEqual((house.homes, house.words, house.errand_of(0)), ((0,), (("errand", (2,)),), ((2,), None)))

    def test_wrong_integers(self):
        self.assertEqual(len(no_integers()), len([value for value in odd_values() if type(value) is not int]))


if __name__ == "__main__":
    import unittest
    unittest.main()
