"""[55]: yards, in which anybody in a lane may leave first."""

import itertools
import random
import unittest

from nobodymeets.errors import InvalidIndex, InvalidLanes, InvalidStanding, Refused
from nobodymeets.lanes import LaneMap
from nobodymeets.yards import yard_goings, yard_gone, yard_holds, yard_knot, yard_paper
from tests.helpers import PromiseCase, changed_a_little, is_below, is_rising, is_tupled, listed, odd_values, same
from tests.lane_worlds import random_map, random_standing

PAIR = LaneMap((2, 2), ((0, 1), (1, 0)))


def can_go(lanes, standing, going):
    lane, place = going
    way = standing[lane][place]
    return way == () or len(standing[way[0]]) < lanes.rooms[way[0]]


def goings(lanes, standing):
    return tuple((lane, place) for lane, row in enumerate(standing) for place in range(len(row))
                 if can_go(lanes, standing, (lane, place)))


def gone(standing, going):
    rows = [list(row) for row in standing]
    way = rows[going[0]].pop(going[1])
    if way:
        rows[way[0]].append(way[1:])
    return tuple(tuple(row) for row in rows)


def can_all_go_out(lanes, standing):
    """By trying all goings; who stands where in a row does not matter here."""
    found, left = set(), [standing]
    while left:
        now = left.pop()
        if not any(now):
            return True
        for going in goings(lanes, now):
            after = tuple(tuple(sorted(row)) for row in gone(now, going))
            if after not in found:
                found.add(after)
                left.append(after)
    return False


def is_lot(lanes, standing, lot):
    """Whether lanes are full, and all in them want to go to lanes of the lot."""
    return all(len(standing[lane]) == lanes.rooms[lane] and all(way and way[0] in lot for way in standing[lane])
               for lane in lot)


def greatest_lot(lanes, standing):
    lots = [lot for many in range(1, len(standing) + 1) for lot in itertools.combinations(range(len(standing)), many)
            if is_lot(lanes, standing, lot)]
    together = tuple(sorted({lane for lot in lots for lane in lot}))
    assert not lots or together in lots
    return together if lots else None


def is_paper(lanes, standing, value):
    """[55]: straight from the document."""
    if not isinstance(value, tuple) or len(value) != 2 or not isinstance(value[1], tuple):
        return False
    if same(value[0], "knot"):
        lot = value[1]
        if not lot or not all(is_below(lane, len(standing)) for lane in lot) or not is_rising(lot):
            return False
        return is_lot(lanes, standing, lot)
    if not same(value[0], "out"):
        return False
    now = standing
    for going in value[1]:
        if not isinstance(going, tuple) or len(going) != 2 or not is_below(going[0], len(now)):
            return False
        if not is_below(going[1], len(now[going[0]])) or not can_go(lanes, now, going):
            return False
        now = gone(now, going)
    return not any(now)


def worlds(seed, many, most, longest=3, rooms=(2, 2, 3)):
    chance = random.Random(seed)
    for _ in range(many):
        lanes = random_map(chance, most, rooms)
        yield lanes, random_standing(chance, lanes, longest)


def full_yard(chance, many, longest):
    """A yard in which each lane leads to each other one and is full."""
    lanes = LaneMap([chance.choice((2, 2, 3)) for _ in range(many)], list(itertools.permutations(range(many), 2)))
    standing = []
    for lane, room in enumerate(lanes.rooms):
        row = []
        for _ in range(room):
            way = [lane]
            for _ in range(chance.randint(0 if chance.random() < 0.2 else 1, longest)):
                way.append(chance.choice([other for other in range(many) if other != way[-1]]))
            row.append(tuple(way[1:]))
        standing.append(tuple(row))
    return lanes, tuple(standing)


class YardTest(PromiseCase):
    def test_no_lanes_and_nobody(self):
        self.tells(None, yard_knot, LaneMap((), ()), ())
        self.tells((), yard_goings, LaneMap((), ()), ())
        self.tells(("out", ()), yard_paper, LaneMap((), ()), ())
        self.tells(("out", ()), yard_paper, PAIR, ((), ()))
        self.tells(None, yard_knot, PAIR, ((), ()))
        for value in (("knot", ()), ("knot", (0,)), ("out", ((0, 0),))):
            self.holds_just_if(False, yard_holds, PAIR, ((), ()), value)

    def test_anybody_leaves_first(self):
        standing = (((1,), ()), ((0,), (0,)))
        self.tells(((0, 1),), yard_goings, PAIR, standing)
        self.tells((((1,),), ((0,), (0,))), yard_gone, PAIR, standing, [0, 1])
        self.told(Refused, 0, yard_gone, PAIR, standing, (0, 0))
        self.told(Refused, 1, yard_gone, PAIR, standing, (1, 1))
        self.tells(((1, 0), (1, 1)), yard_goings, PAIR, (((1,),), ((0,), (0,))))
        self.tells((((1,), ()), ((0,),)), yard_gone, PAIR, (((1,),), ((0,), (0,))), (1, 0))
        # Whoever goes, goes to the end of the row.
        self.tells((((1, 0), ()), ((),)), yard_gone, PAIR, (((1, 0),), ((0,), ())), (1, 0))

    def test_a_knot_of_two_full_lanes(self):
        standing = (((1,), (1, 0)), ((0,), (0, 1)))
        self.tells((0, 1), yard_knot, PAIR, standing)
        self.tells(("knot", (0, 1)), yard_paper, PAIR, standing)
        self.tells((), yard_goings, PAIR, standing)
        # One who wants out opens it.
        self.tells(None, yard_knot, PAIR, (((1,), ()), ((0,), (0,))))
        self.tells(None, yard_knot, PAIR, (((1,),), ((0,), (0,))))

    def test_a_full_lane_from_which_nobody_can_leave(self):
        lanes = LaneMap((2, 2, 2), ((0, 1), (1, 0), (2, 0)))
        standing = (((1,), (1,)), ((0,), (0,)), ((0, 1), (0,)))
        self.tells((0, 1, 2), yard_knot, lanes, standing)
        for lot, expected in (((0, 1), True), ((0, 1, 2), True), ((2,), False), ((0, 2), False), ((1, 0), False),
                              ((0,), False), ((0, 1, 1), False), ((), False), ([0, 1], False), ((False, 1), False),
                              ((0, 1, 3), False)):
            self.holds_just_if(expected, yard_holds, lanes, standing, ("knot", lot))
        # A full lane of which one robot may go on is in no lot.
        self.tells((0, 1), yard_knot, lanes, (((1,), (1,)), ((0,), (0,)), ((0, 1), ())))

    def test_lanes_with_room_for_one(self):
        lanes = LaneMap((2, 1, 1), ((0, 1), (1, 0)))
        standing = ((), ((0,),), ((),))
        self.told(Refused, 1, yard_paper, lanes, standing)
        self.told(Refused, 0, yard_paper, LaneMap((1,), ()), ((),))
        self.tells(None, yard_knot, lanes, standing)
        self.tells(((1, 0), (2, 0)), yard_goings, lanes, standing)
        self.tells((((),), (), ((),)), yard_gone, lanes, standing, (1, 0))
        self.holds_just_if(True, yard_holds, lanes, standing, ("out", ((2, 0), (1, 0), (0, 0))))
        self.holds_just_if(False, yard_holds, lanes, standing, ("out", ((1, 0), (0, 0))))
        shut = (((1,), (1, 0)), ((0,),), ())
        self.tells((0, 1), yard_knot, lanes, shut)
        self.holds_just_if(True, yard_holds, lanes, shut, ("knot", (0, 1)))

    def test_wrong_goings(self):
        standing = (((1,), ()), ((0,), (0,)))
        for going in odd_values() + [(0,), (0, 2), (2, 0), (-1, 0), (0, -1), (0, True), (True, 0), (0, 0, 0), (None, 0),
                                     "00", ((0, 1),), {0: 1}]:
            if going not in ((0, 0), [0, 0]):
                self.told(InvalidIndex, -1, yard_gone, PAIR, standing, going)
        self.told(InvalidIndex, -1, yard_gone, PAIR, ((), ()), (0, 0))

    def test_wrong_maps_and_standings(self):
        for call, more in ((yard_knot, ()), (yard_goings, ()), (yard_gone, (None,)), (yard_paper, ()), (yard_holds, (None,))):
            for value in odd_values():
                if not isinstance(value, LaneMap):
                    self.told(InvalidLanes, -1, call, value, None, *more)
            for standing, lane in ((None, -1), (((),), -1), (((), 0), 1), ((((1,),) * 3, ()), 0), ((((0,),), ()), 0),
                                   (((), ((0, 0),)), 1)):
                self.told(InvalidStanding, lane, call, PAIR, standing, *more)
                self.told(InvalidStanding, lane, call, PAIR, listed(standing), *more)

    def test_what_holds_by_chance(self):
        for lanes, standing in worlds(1, 500, 5, rooms=(1, 2, 2, 3)):
            self.tells(goings(lanes, standing), yard_goings, lanes, standing)
            self.tells(goings(lanes, standing), yard_goings, lanes, listed(standing))
            self.tells(greatest_lot(lanes, standing), yard_knot, lanes, standing)
            for lane, row in enumerate(standing):
                for place in range(len(row)):
                    if can_go(lanes, standing, (lane, place)):
                        self.tells(gone(standing, (lane, place)), yard_gone, lanes, standing, (lane, place))
                    else:
                        self.told(Refused, lane, yard_gone, lanes, standing, (lane, place))

    def test_papers_by_chance(self):
        for lanes, standing in worlds(2, 700, 5):
            paper = yard_paper(lanes, standing)
            self.assertTrue(is_tupled(paper) and is_paper(lanes, standing, paper), (lanes.rooms, standing, paper))
            self.holds_just_if(True, yard_holds, lanes, standing, paper)
            lot = greatest_lot(lanes, standing)
            self.assertEqual(paper[0], "out" if lot is None else "knot")
            if lot is not None:
                self.assertEqual(paper[1], lot)

    def test_all_can_come_out_just_if_there_is_no_lot(self):
        knots = 0
        chance = random.Random(6)
        full = [full_yard(chance, chance.randint(2, 3), 2) for _ in range(100)]
        for lanes, standing in itertools.chain(worlds(3, 250, 3, 2, (2, 2, 3)), full):
            self.assertEqual(can_all_go_out(lanes, standing), greatest_lot(lanes, standing) is None)
            knots += greatest_lot(lanes, standing) is not None
        self.assertGreater(knots, 10)

    def test_full_yards(self):
        chance = random.Random(4)
        for _ in range(120):
            lanes, standing = full_yard(chance, chance.randint(2, 5), 4)
            paper = yard_paper(lanes, standing)
            self.assertTrue(is_paper(lanes, standing, paper))
            self.assertEqual(paper[0] == "knot", greatest_lot(lanes, standing) is not None)

    def test_papers_changed_a_little(self):
        for lanes, standing in itertools.chain(worlds(5, 150, 3, 2), [(PAIR, (((1,), (1, 0)), ((0,), (0, 1))))]):
            for value in changed_a_little(yard_paper(lanes, standing)):
                self.holds_just_if(is_paper(lanes, standing, value), yard_holds, lanes, standing, value)

    def test_long_ways(self):
        lanes = LaneMap((9,) * 12, [(one, other) for one in range(12) for other in range(12) if one != other])
        standing = tuple((tuple((lane + 1 + step) % 12 for step in range(40)),) * 8 for lane in range(12))
        paper = yard_paper(lanes, standing)
        self.assertEqual((paper[0], len(paper[1])), ("out", 12 * 8 * 41))
        self.holds_just_if(True, yard_holds, lanes, standing, paper)


if __name__ == "__main__":
    unittest.main()
