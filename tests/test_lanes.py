"""[52]: lanes."""

import itertools
import random
import unittest

from nobodymeets.errors import InvalidIndex, InvalidLanes, InvalidStanding, InvalidTies, Refused
from nobodymeets.lanes import LaneMap, gone_standing, goings_left, need_standing, possible_goings
from tests.helpers import PromiseCase, changed_a_little, is_below, is_int, listed, odd_values, same, tupled
from tests.lane_worlds import gone, movable, random_map, random_standing

RING = LaneMap((1, 2, 1), ((0, 1), (1, 2), (2, 0), (0, 2)))


def first_fault(lanes, value):
    """The place of the first wrong row of a standing, -1 if it is none at all, None if it is right."""
    if not isinstance(value, (list, tuple)) or len(value) != len(lanes.rooms):
        return -1
    for lane, row in enumerate(value):
        if not isinstance(row, (list, tuple)) or len(row) > lanes.rooms[lane]:
            return lane
        for way in row:
            if not isinstance(way, (list, tuple)) or not all(is_below(other, len(lanes.rooms)) for other in way):
                return lane
            if any(pair not in lanes.goings for pair in zip([lane] + list(way), way)):
                return lane
    return None


class LaneMapTest(PromiseCase):
    def test_attributes(self):
        lanes = LaneMap([1, 9, 3], [[2, 0], (0, 1), [2, 1], (0, 1), [2, 0]])
        self.assertTrue(same(lanes.rooms, (1, 9, 3)))
        self.assertTrue(same(lanes.goings, ((0, 1), (2, 0), (2, 1))))
        self.assertTrue(same(LaneMap((5,), ()).goings, ()))

    def test_twelve_lanes(self):
        goings = tuple(itertools.permutations(range(12), 2))
        self.assertEqual(LaneMap((1,) * 12, goings).goings, goings)
        self.told(InvalidLanes, -1, LaneMap, (1,) * 13, ())
        self.told(InvalidLanes, -1, LaneMap, (0,) * 13, None)

    def test_wrong_rooms(self):
        for rooms, at in (([0], 0), ([10], 0), ([-1], 0), ([True], 0), ([None], 0), (["1"], 0), ([1, 9, (1,)], 2),
                          ([1, 0, 0], 1), (None, -1), ("11", -1), (3, -1), ({1: 1}, -1)):
            self.told(InvalidLanes, at, LaneMap, rooms, ())
            self.told(InvalidLanes, at, LaneMap, rooms, None)

    def test_wrong_goings(self):
        for goings, at in (([(0, 0)], 0), ([(0, 2)], 0), ([(-1, 0)], 0), ([(0, 1), (0, True)], 1), ([(0, 1), (1,)], 1),
                           ([(0, 1), (1, 0), (0, 1, 1)], 2), ([(0, 1), None, 3], 1), ([0], 0), (["01"], 0),
                           (None, -1), ("01", -1), (1, -1), ([(1, 0), (None, 1)], 1)):
            self.told(InvalidTies, at, LaneMap, (1, 1), goings)

    def test_equality(self):
        made = LaneMap((1, 2), ((0, 1), (1, 0)))
        self.assertTrue(made == LaneMap([1, 2], [[1, 0], [0, 1], [1, 0]]))
        self.assertTrue(made != LaneMap((1, 1), ((0, 1), (1, 0))))
        self.assertTrue(made != LaneMap((1, 2), ((0, 1),)))
        self.assertTrue(LaneMap((1,), ()) != LaneMap((1, 1), ()))


class StandingTest(PromiseCase):
    def test_in_tuples(self):
        self.tells((((1, 2, 0),), ((2,), ()), ()), need_standing, RING, [[[1, 2, 0]], [[2], []], []])
        self.tells(((), (), ()), need_standing, RING, [[], (), []])

    def test_standings_changed_a_little(self):
        for standing in ((((1, 2, 0),), ((2,), ()), ()), (((2, 0),), (), ((),)), ((), (), ())):
            for value in list(changed_a_little(standing)) + list(changed_a_little(listed(standing))) + odd_values():
                fault = first_fault(RING, value)
                if fault is None:
                    self.tells(tupled(value), need_standing, RING, value)
                else:
                    for call in (need_standing, possible_goings, goings_left):
                        self.told(InvalidStanding, fault, call, RING, value)
                    self.told(InvalidStanding, fault, gone_standing, RING, value, None)

    def test_the_first_wrong_row(self):
        for standing, at in (([[], [], []], None), ([[[0]], [[]] * 3, []], 0), ([[], [[]] * 3, [[1]]], 1),
                             ([[], [], [[1]]], 2), ([[[2, 1]], [], []], 0), ([[[1, 0]], [], []], 0),
                             ([[[1, 2, 0, 2, 0]], [], []], None), ([[[3]], [], []], 0), ([[[]], [[]], [[], []]], 2),
                             ([[[True]], [], []], 0), ([[], [], [[False]]], 2), ([[], []], -1), ([[]] * 4, -1)):
            if at is None:
                self.tells(tupled(standing), need_standing, RING, standing)
            else:
                self.told(InvalidStanding, at, need_standing, RING, standing)

    def test_ways_of_forty_lanes(self):
        two = LaneMap((1, 1), ((0, 1), (1, 0)))
        self.assertEqual(goings_left(two, [[[1, 0] * 20], []]), 41)
        self.told(InvalidStanding, 0, need_standing, two, [[[1, 0] * 20 + [0]], []])

    def test_who_can_go(self):
        for standing, goings in (([[], [], []], ()), ([[[]], [[]], [[]]], (0, 1, 2)), ([[[1]], [], []], (0,)),
                                 ([[[1]], [[2], [2]], [[]]], (2,)), ([[[1]], [[2], []], []], (1,)),
                                 ([[[1]], [[2]], [[0]]], (0,)), ([[[2]], [[], [2]], [[0]]], (1,)),
                                 ([[[1]], [[2], [2]], [[0]]], ())):
            self.tells(goings, possible_goings, RING, standing)

    def test_what_then_is(self):
        standing = [[[1, 2]], [[2, 0]], [[]]]
        self.tells(((), ((2, 0), (2,)), ((),)), gone_standing, RING, standing, 0)
        self.tells((((1, 2),), ((2, 0),), ()), gone_standing, RING, standing, 2)
        self.told(Refused, 1, gone_standing, RING, standing, 1)
        self.tells(((), ((2,),), ((),)), gone_standing, RING, [[], [[], [2]], [[]]], 1)

    def test_lanes_that_are_none_or_cannot(self):
        standing = [[[1]], [[2], [2]], []]
        for lane in (3, -1, True, False, None, "0", (0,)):
            self.told(InvalidIndex, -1, gone_standing, RING, standing, lane)
        self.told(Refused, 0, gone_standing, RING, standing, 0)
        self.told(Refused, 2, gone_standing, RING, standing, 2)

    def test_a_full_lane_takes_nobody_a_lane_with_room_one_more(self):
        wide = LaneMap((1, 9), ((0, 1),))
        for many in range(10):
            standing = (((1,),), ((),) * many)
            if many == 9:
                self.tells((1,), possible_goings, wide, standing)
                self.told(Refused, 0, gone_standing, wide, standing, 0)
            else:
                self.tells(((), ((),) * (many + 1)), gone_standing, wide, standing, 0)

    def test_goings_left(self):
        self.tells(0, goings_left, RING, [[], [], []])
        self.tells(9, goings_left, RING, [[[1, 2, 0]], [[2], []], [[0]]])

    def test_runs(self):
        chance = random.Random(11)
        for _ in range(200):
            lanes = random_map(chance, 5)
            standing = random_standing(chance, lanes)
            left = goings_left(lanes, standing)
            while movable(lanes, standing):
                self.tells(tuple(movable(lanes, standing)), possible_goings, lanes, standing)
                self.assertEqual(goings_left(lanes, standing), left)
                lane = chance.choice(movable(lanes, standing))
                after = gone_standing(lanes, listed(standing), lane)
                self.assertTrue(same(after, gone(standing, lane)))
                standing, left = after, left - 1
            self.assertEqual(left == 0, all(row == () for row in standing))
            self.assertTrue(is_int(left))

    def test_no_lanes_at_all(self):
        nothing = LaneMap((), ())
        self.tells((), need_standing, nothing, [])
        self.tells(0, goings_left, nothing, ())


if __name__ == "__main__":
    unittest.main()
