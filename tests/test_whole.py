"""The whole program: [1] to [3] of odd things anywhere, of several wrong things the first one, and the overview."""

import unittest

from nobodymeets.best import lone_coming
from nobodymeets.brain import plain_carrying
from nobodymeets.broken import fetch_order, never_comings
from nobodymeets.carried import coming_times
from nobodymeets.court import errand_way, is_open
from nobodymeets.dealing import least_dealing
from nobodymeets.errors import (InvalidBook, InvalidComings, InvalidDeeds, InvalidGoods, InvalidHolds, InvalidHomes,
                                InvalidIndex, InvalidLanes, InvalidLetter, InvalidLines, InvalidLot, InvalidLots,
                                InvalidOrders, InvalidPlan, InvalidPrices, InvalidRobots, InvalidRoutes, InvalidScript,
                                InvalidStanding, InvalidStretches, InvalidTable, InvalidTask, InvalidTies, InvalidWants,
                                InvalidWay, InvalidWays, NoRobot, Refused)
from nobodymeets.exchanged import turned_paper
from nobodymeets.halls import Hall, lose_cells, read_drawing
from nobodymeets.holds import implied_known
from nobodymeets.house import House, house_again
from nobodymeets.lanes import LaneMap, need_standing
from nobodymeets.letters import need_bag, need_letter
from nobodymeets.lifted import lifted_hall
from nobodymeets.opened import kept_paper, lost_paper
from nobodymeets.orders import wave_paper
from nobodymeets.passings import need_passings, need_routes
from nobodymeets.pictures import hall_picture
from nobodymeets.plans import moves_plan, need_task
from nobodymeets.prices import prices_hold
from nobodymeets.standings import home_tree
from nobodymeets.stations import row_carries
from nobodymeets.stock import begin_book, book_after, promise_paper, till_paper
from nobodymeets.stops import stop_table
from nobodymeets.stretches import late_free
from nobodymeets.worlds import need_holds, need_plan, need_robots, need_script, need_way
from tests.calls import TABLE, lanes
from tests.flow_calls import PASSINGS, ROUTES
from tests.helpers import PromiseCase, odd_values
from tests.test_basics import ALL_CALLS
from tests.test_exchanged import BOTH, BOTH_PASSINGS

ROW = read_drawing("...")
HALL = read_drawing("P.H\nP.S")

# A call with things in a row of which the one at place 1 is wrong by a little: the function, what stands ahead of the
# row, the row's first two things, what stands behind it, and the error. Behind these two a grosser thing is put.
FIRSTS = (
    (lose_cells, (HALL,), (0, 0), (), InvalidLot), (need_way, (ROW,), (0, 2), (), InvalidWay),
    (need_plan, (ROW,), ((0,), (3,)), (), InvalidPlan), (need_routes, (ROW,), ((0, 1), (0, 2)), (), InvalidRoutes),
    (need_robots, (HALL, 5), (((0,), -1, 3, 0), ((1,), -1, 6, 3)), (), InvalidRobots),
    (need_holds, (HALL, 2), ((1, 0), (1, 1)), (), InvalidHolds),
    (need_script, (HALL, 2), ((("fall",),), (("start", 2),)), (), InvalidScript),
    (LaneMap, (), (1, 10), ((),), InvalidLanes), (LaneMap, ((1, 2),), ((0, 1), (1, 1)), (), InvalidTies),
    (need_standing, (lanes(),), (((1,),), ((0,),)), (), InvalidStanding),
    (least_dealing, (), ((1, 2), (1,)), (), InvalidTable), (prices_hold, (TABLE,), (4, -1), (), InvalidPrices),
    (begin_book, (), (((1, 2),), ((1, 0),)), (), InvalidGoods),
    (wave_paper, (), (((1, 2),), ((1, 2), (1, 3))), ((), 9), InvalidGoods),
    (book_after, ((((),), 0, ()),), ((0, "in", 0, 1, 1), (1, "in", 1, 1, 1)), (), InvalidDeeds),
    (promise_paper, ((),), ((1, 1, 1), (1, 1, 0)), ((),), InvalidComings),
    (promise_paper, ((), ()), ((1, 1, 1), (1, 1, 0)), (), InvalidWants),
    (till_paper, (), ((1, 1, 1), (1, 1, 0)), ((),), InvalidLots), (till_paper, ((),), ((1, 1, 1), (1, 1, 0)), (), InvalidLines),
    (row_carries, (), ((1, 2), (1, 3)), ((), 1), InvalidHomes),
    (row_carries, (((1, 2),),), (((1, 2),), ((2, 2),)), (1,), InvalidOrders),
    (errand_way, (HALL,), (0, 0), (0, ()), InvalidRobots), (errand_way, (HALL, (0,), 0), (2, 2), (), InvalidLot),
    (House, (HALL,), (0, 0), (), InvalidRobots),
    (house_again, (HALL, (0,)), (("deal",), ("start", 0)), (), InvalidScript),
    (need_bag, (), (("hold", 0, 1), ("hold", 0, 1)), (), InvalidLetter),
    (home_tree, (ROW,), ((0, 0), (1, 0)), (), InvalidStanding), (lost_paper, (HALL,), (1, 1), (), InvalidLot),
    (kept_paper, (HALL,), (0, 0), (), InvalidLot),
    (late_free, (Hall(("free",) * 3, ()),), (((0, 3),), ((0, 2), (2, 3))), (1,), InvalidStretches),
    (hall_picture, (HALL,), (((0,), False), ((0,), True)), (), InvalidRobots),
    (need_passings, (ROUTES,), (PASSINGS[0], (1, ((0, 1), (0, 1)))), (), InvalidOrders),
    (lone_coming, (ROW, 0, 2), ((1, 3), (3, 3)), (), InvalidIndex),
    (stop_table, (ROW, 3, 1, 0, 2), (1, 3), (), InvalidLot), (fetch_order, (ROW,), (1, 1), (0,), InvalidLot),
    (lifted_hall, (read_drawing(">>."),), ((0, 1), (1, 0)), (), InvalidWays),
    (turned_paper, (BOTH, BOTH_PASSINGS, 0, 1), ((1, 1), (1, 1)), (), InvalidLot),
)
# These take just three things.
OF_THREE = (need_standing, late_free, prices_hold)
# What is kept by its error is told by an argument of its own.
ASKED_CALLS = [told for told in ALL_CALLS if told[0] != need_letter]


class WholeTest(PromiseCase):
    def test_anything_odd_as_the_first_argument(self):
        for call, right, wrongs in ASKED_CALLS:
            for value, error, kept in wrongs[list(right)[0]] if right else ():
                for rest in odd_values()[:12] + [value]:
                    self.told(error, kept, call, value, *[rest] * (len(right) - 1))

    def test_odd_things_behind_right_ones(self):
        # Whatever stands behind the first wrong argument, it is told.
        for call, right, wrongs in ASKED_CALLS:
            names = list(right)
            for at, name in enumerate(names):
                for value, error, kept in wrongs[name][:4]:
                    for rest in (None, True, -1, "x", ([],), value):
                        args = [right[one] for one in names[:at]] + [value] + [rest] * (len(names) - at - 1)
                        if "turned" not in call.__name__ or name in ("hall", "routes", "ways"):
                            self.told(error, kept, call, *args)

    def test_of_several_wrong_things_the_first_one(self):
        for call, ahead, things, behind, error in FIRSTS:
            for grosser in ([], [None], [None, 7, "x"], [things[0], HALL], [()]):
                if call in OF_THREE and len(grosser) != 1:
                    continue
                for row in (tuple(things) + tuple(grosser), list(things) + grosser):
                    self.told(error, 1, call, *ahead, row, *behind)

    def test_of_several_wrong_things_for_each_of_some_robots(self):
        self.told(InvalidTask, 1, need_task, ROW, ((0, 0, None), (1, 2, 9)))
        self.told(InvalidTask, 1, need_task, ROW, ((0, 1, None), (2, 2, "x")))
        three = ((0, 1), (2, 3), (4, 5)), tuple((cell, ((cell // 2, cell % 2),)) for cell in range(6))
        self.told(InvalidScript, 1, coming_times, *three, ((1,), (0,), None))
        self.told(InvalidBook, 1, implied_known, *three, (1, 2, None))
        six = Hall(("free",) * 6, ((0, 1), (2, 3), (4, 5)))
        self.told(InvalidIndex, 1, never_comings, six, *three, (1, 2, None), None, None)
        self.told(NoRobot, 3, never_comings, six, *three, (0, 0, 0), (1, 3, None), None)
        self.told(Refused, 1, moves_plan, ROW, ((0, 2), (1, 2)), ((0, 1), (0, 2), None))
        self.told(InvalidScript, 1, plain_carrying, *three, (("start", 0), ("take", 0), None))

    def test_overview(self):
        house = House(read_drawing("P.H\nP.."), [0, 3])
        words = (("errand", [2]), ("deal",), ("errand", [2]), ("deal",), ("start", 0), ("come", 0), ("start", 1), ("come", 1))
        self.assertEqual([house.do_word(word) for word in words][1:4:2], [("errand", 0, 0), ("errand", 1, 1)])
        self.assertEqual((house.robot_place(0), house.robot_place(1)), ((1,), (4,)))
        self.assertEqual((house.can_start(1), house.waits_on(1), house.moves_left(1)), (False, 0, 5))
        self.assertTrue(is_open(house.hall))


if __name__ == "__main__":
    unittest.main()
