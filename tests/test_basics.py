"""[1], [2], [3]: what holds for each function and class of these modules."""

import inspect

from nobodymeets.brain import RadioHall
from nobodymeets.carried import Carrying
from nobodymeets.charge import served_holds
from nobodymeets.court import court_holds
from nobodymeets.dealing import dealing_holds, soonest_holds
from nobodymeets.desk import Desk
from nobodymeets.errors import HallError
from nobodymeets.flows import rows_hold
from nobodymeets.halls import Hall
from nobodymeets.house import House
from nobodymeets.knots import safe_holds
from nobodymeets.lanes import LaneMap, need_standing
from nobodymeets.letters import need_bag, need_letter
from nobodymeets.live import Live
from nobodymeets.opened import many_holds
from nobodymeets.orders import pairs_hold, wave_holds
from nobodymeets.parked import trips_hold
from nobodymeets.passings import need_passings, need_routes, passing_holds
from nobodymeets.pieces import parts_holds, together_holds
from nobodymeets.plans import need_task, plan_holds
from nobodymeets.prices import fairest_holds
from nobodymeets.radiohouse import RadioHouse
from nobodymeets.standings import standing_holds
from nobodymeets.stations import carries_fault, carries_serve
from nobodymeets.stock import promise_holds, till_holds
from nobodymeets.worlds import need_holds, need_plan, need_robots, need_script, need_way
from nobodymeets.yards import yard_holds
from tests.calls import KINDS, PLACES, STANDING, TABLE, WAYS, calls, hall, lanes, methods
from tests.court_calls import TASK, charged, court_calls, live, live_methods, task_hall, wide
from tests.flow_calls import PASSINGS, ROUTES, flow_calls, tee
from tests.helpers import KIND_WORDS, PromiseCase, is_tupled, listed, no_integers, odd_values, same, shape, tupled
from tests.more_calls import (ENOUGH, GOODS, HOMES, LINE, LOTS, ONE, ORDERS, OTHER, ROWS, SHELVES, WANTED, WANTS,
                              more_calls, two_way)
from tests.radio_calls import RADIO_JUDGES, radio_calls, radio_methods
from tests.way_calls import WAY_JUDGES, way_calls, way_methods

ALL_CALLS = calls() + more_calls() + court_calls() + flow_calls() + way_calls() + radio_calls()
ALL_METHODS = methods() + live_methods() + way_methods() + radio_methods()
# What takes any value as something else than a paper: there lists may stand for tuples.
ASKED = (need_standing, need_letter, need_bag, need_way, need_plan, need_robots, need_holds, need_script, need_task,
         need_routes, need_passings)


def seen(value):
    """A result in a form that can be compared: what an object of the package tells of itself."""
    if isinstance(value, Hall):
        return ("hall", value.kinds, value.ways, value.places)
    if isinstance(value, LaneMap):
        return ("lanes", value.rooms, value.goings)
    if isinstance(value, Desk):
        return ("desk", seen(value.live))
    if isinstance(value, Live):
        return ("live", seen(value.hall), value.homes, value.words, seen(value.house))
    if isinstance(value, House):
        return ("house", value.homes, value.words, [value.robot_place(robot) for robot in range(len(value.homes))])
    if isinstance(value, Carrying):
        return ("carrying", vars(value))
    if isinstance(value, RadioHall):
        return ("radio", value.done, value.gone, value.known, value.bag, value.log)
    if isinstance(value, RadioHouse):
        return ("whole", seen(value.house), value.bag)
    return value


def in_lists(call, right):
    """Arguments with lists for tuples, but for papers, records, books and gifts."""
    if call in ASKED:
        return {name: listed(value) for name, value in right.items()}
    return {name: value if name in ("value", "values", "book", "gifts") else listed(value) for name, value in right.items()}


# What tells whether any value is a paper, and a question to which none of the odd values is an answer.
JUDGES = (
    (dealing_holds, (TABLE,)), (soonest_holds, (TABLE,)), (safe_holds, (lanes(), STANDING)),
    (together_holds, (hall(), 0, 3)), (parts_holds, (hall(), 0, 3)), (standing_holds, (two_way(), ONE, OTHER)),
    (fairest_holds, (TABLE,)), (promise_holds, (GOODS, ROWS, WANTS)), (till_holds, (LOTS, (LINE,))),
    (wave_holds, (SHELVES, WANTED)), (pairs_hold, (ENOUGH, WANTED)), (court_holds, (hall(),)),
    (plan_holds, (task_hall(), TASK)), (yard_holds, (wide(), STANDING)), (served_holds, (charged(), 4)),
    (passing_holds, (ROUTES, PASSINGS)), (rows_hold, (task_hall(), TASK, 1)), (many_holds, (tee(), 2)),
    (trips_hold, (two_way(), ONE, OTHER)),
) + WAY_JUDGES + RADIO_JUDGES


def papers_like(value):
    """Values that look like papers, with a thing in the place of what should stand there."""
    found = [value, (value,), [value, value], (value, value), (value, value, value), ((value,), value)]
    for word in KIND_WORDS:
        found.extend([(word, value), (word, value, value), (word, (value,)), (word, (value,), value),
                      (word, value, (value,)), (word, ((value, value),)), (word, ((value,),), None)])
    return found


class BasicsTest(PromiseCase):
    def test_lists_for_tuples_names_for_places_and_again(self):
        for call, right, _ in ALL_CALLS:
            first = seen(call(*right.values()))
            lists = in_lists(call, right)
            for again in (call(**right), call(*lists.values()), call(**lists), call(*right.values())):
                self.assertTrue(same(seen(again), first), (call, seen(again), first))

    def test_results_are_in_tuples_also_within(self):
        for call, right, _ in ALL_CALLS:
            result = call(**in_lists(call, right))
            for part in vars(result).values() if hasattr(result, "__dict__") else [result]:
                if not isinstance(result, (House, Carrying, RadioHall, RadioHouse)):
                    self.assertTrue(is_tupled(part), (call, part))
        for made, name, right, _ in ALL_METHODS:
            self.assertTrue(is_tupled(getattr(made, name)(**right)), name)

    def test_arguments_stay_as_they_were(self):
        for call, right, _ in ALL_CALLS:
            for args in ([listed(value) for value in right.values()], [tupled(value) for value in right.values()]):
                before = shape(args)
                try:
                    call(*args)
                except HallError:
                    pass
                self.assertEqual(shape(args), before, call)

    def test_wrong_arguments(self):
        for call, right, wrongs in ALL_CALLS:
            self.assertEqual(list(right), list(wrongs), call)
            for name, values in wrongs.items():
                for value, error, kept in values:
                    self.told(error, kept, call, **{**right, name: value})
                    self.told(error, kept, call, *{**right, name: value}.values())

    def test_of_several_wrong_arguments_the_first_ones_error(self):
        for call, right, wrongs in ALL_CALLS:
            names = [name for name in right if wrongs[name]]
            for at, one in enumerate(names):
                value, error, kept = wrongs[one][at]
                for other in names[at + 1:]:
                    self.told(error, kept, call, **{**right, one: value, other: wrongs[other][0][0]})

    def test_methods(self):
        for made, name, right, wrongs in ALL_METHODS:
            method = getattr(made, name)
            self.assertTrue(same(method(**right), method(*right.values())), name)
            for word, values in wrongs.items():
                for value, error, kept in values:
                    self.told(error, kept, method, **{**right, word: value})
                    self.told(error, kept, method, *{**right, word: value}.values())

    def test_parameters_are_called_so(self):
        for call, right, _ in ALL_CALLS:
            names = [name for name in inspect.signature(call).parameters if name != "self"]
            self.assertEqual(names, list(right), call)

    def test_any_value_raises_nothing_where_it_is_told_whether_it_holds(self):
        for value in odd_values():
            for item in papers_like(value):
                for call, given in JUDGES:
                    self.assertIs(call(*given, item), False, (call, item))
                self.assertIn(carries_serve(HOMES, ORDERS, 2, item), (True, False))
                place, word = carries_fault(SHELVES, ORDERS, 2, item)
                self.assertIn(word, ("form", "left") if item in ((), ((),)) else ("form",))
                self.assertEqual(place == -1, not isinstance(item, tuple))

    def test_objects_are_not_iterable_and_have_no_length(self):
        for made in (hall(), lanes(), House(hall(), (0,)), live(), Desk(), Carrying(ROUTES, PASSINGS), RadioHall(ROUTES, PASSINGS),
                     RadioHouse(hall(), (0,))):
            self.assertRaises(TypeError, iter, made)
            self.assertRaises(TypeError, len, made)
            self.assertRaises(TypeError, lambda thing=made: 0 in thing)

    def test_objects_with_equality_are_equal_to_nothing_else(self):
        for made in (hall(), lanes()):
            for other in odd_values() + [0, (), (KINDS, WAYS, PLACES)]:
                self.assertIs(made == other, False)
                self.assertIs(made != other, True)
            self.assertIs(made == House(hall(), (0,)), False)
        self.assertIs(hall() == lanes(), False)
        self.assertIs(lanes() == hall(), False)

    def test_later_changes_to_arguments_have_no_effect(self):
        kinds, ways, places = listed(KINDS), listed(WAYS), listed(PLACES)
        made = Hall(kinds, ways, places)
        kinds[0] = "free"
        ways[0][0] = 3
        places.pop()
        self.assertEqual(made, hall())
        rooms, goings = [1, 1, 2], [[0, 1], [1, 2], [2, 0]]
        told = LaneMap(rooms, goings)
        rooms[0] = 7
        goings[0][1] = 2
        self.assertEqual(told, lanes())
        homes, goals = [0], [2]
        house = House(made, homes)
        house.do_word(["errand", goals])
        homes[0] = 1
        goals[0] = 0
        self.assertEqual((house.homes, house.words, house.errand_of(0)), ((0,), (("errand", (2,)),), ((2,), None)))

    def test_wrong_integers(self):
        self.assertEqual(len(no_integers()), len([value for value in odd_values() if type(value) is not int]))


if __name__ == "__main__":
    import unittest
    unittest.main()
