"""[53], [54]: knots, safe standings, trusted maps."""

import itertools
import random
import unittest

from nobodymeets.errors import InvalidLanes, InvalidStanding, Refused
from nobodymeets.knots import (find_knot, lane_court, let_goings, safe_holds, safe_paper, sharing_lanes,
                               widened_rooms)
from nobodymeets.lanes import LaneMap, need_standing, possible_goings
from tests.helpers import PromiseCase, changed_a_little, is_below, is_rising, is_tupled, listed, odd_values, same
from tests.lane_worlds import (all_that_come, gone, is_safe, knots, movable, random_map, random_standing, rings_from,
                               shares)

RING = LaneMap((1, 2, 1), ((0, 1), (1, 2), (2, 0)))
EIGHT = LaneMap((1, 1, 1), ((0, 1), (1, 0), (0, 2), (2, 0)))


def should_hold(lanes, standing, value):
    """[53]: whether a value is a paper, straight from the document."""
    if not isinstance(value, tuple) or len(value) != 2 or not isinstance(value[1], tuple):
        return False
    if value[0] == "knot":
        return all(is_below(lane, len(standing)) for lane in value[1]) and value[1] in knots(lanes, standing)
    if value[0] == "out":
        for lane in value[1]:
            if not is_below(lane, len(standing)) or lane not in movable(lanes, standing):
                return False
            standing = gone(standing, lane)
        return all(row == () for row in standing)
    if value[0] != "shut" or not all(is_plain(lanes, one) for one in value[1]) or not is_rising(value[1]):
        return False
    if standing not in value[1] or tuple(() for _ in standing) in value[1]:
        return False
    return all(gone(one, lane) in value[1] for one in value[1] for lane in movable(lanes, one))


def is_plain(lanes, value):
    if not is_tupled(value):
        return False
    try:
        return same(need_standing(lanes, value), value)
    except InvalidStanding:
        return False


class KnotTest(PromiseCase):
    def test_a_ring_of_full_lanes(self):
        self.tells((0, 1, 2), find_knot, RING, [[[1]], [[2], []], [[0, 1]]])
        self.tells(None, find_knot, RING, [[[1]], [[2]], [[0, 1]]])
        self.tells(None, find_knot, RING, [[[1]], [[], [2]], [[0, 1]]])
        self.tells(None, find_knot, RING, [[], [], []])
        self.tells((0, 2), find_knot, EIGHT, [[[2]], [[0]], [[0]]])
        self.tells((0, 1), find_knot, EIGHT, [[[1]], [[0]], [[0]]])
        self.tells(None, find_knot, LaneMap((), ()), ())

    def test_the_knot_that_has_the_least_lane(self):
        lanes = LaneMap((1, 1, 1, 1, 1), ((0, 1), (1, 3), (3, 1), (4, 2), (2, 4)))
        self.tells((1, 3), find_knot, lanes, [[[1]], [[3]], [[4]], [[1]], [[2]]])
        self.tells((2, 4), find_knot, lanes, [[[1]], [[3]], [[4]], [], [[2]]])
        turned = LaneMap((1, 1, 1), ((0, 2), (2, 1), (1, 0)))
        self.tells((0, 2, 1), find_knot, turned, [[[2]], [[0]], [[1]]])

    def test_random_standings(self):
        chance = random.Random(2)
        for _ in range(600):
            lanes = random_map(chance, 5, (1, 1, 2))
            standing = random_standing(chance, lanes, 2)
            expected = sorted(knots(lanes, standing))
            self.tells(expected[0] if expected else None, find_knot, lanes, listed(standing))
            if not expected and any(standing):
                self.assertTrue(possible_goings(lanes, standing), "without a knot somebody can go")


class TrustedTest(PromiseCase):
    def test_two_rings_that_share_a_lane(self):
        told = sharing_lanes(EIGHT)
        self.assertIn(told, (((0, (0, 1), (0, 2)),), ((0, (0, 2), (0, 1)),)))
        self.tells((2, 1, 1), widened_rooms, EIGHT)
        self.tells((), sharing_lanes, LaneMap((2, 1, 1), EIGHT.goings))
        self.tells(("trusted",), lane_court, LaneMap((2, 1, 1), EIGHT.goings))

    def test_maps_without_such_lanes(self):
        two_shared = LaneMap((1,) * 4, ((0, 1), (1, 2), (2, 0), (1, 3), (3, 0)))
        for lanes in (RING, two_shared, LaneMap((1,), ()), LaneMap((), ()), LaneMap((1, 1), ((0, 1), (1, 0)))):
            self.tells((), sharing_lanes, lanes)
            self.tells(("trusted",), lane_court, lanes)
            self.tells(lanes.rooms, widened_rooms, lanes)

    def test_all_maps_of_three_lanes(self):
        pairs = list(itertools.permutations(range(3), 2))
        for there in itertools.product((0, 1), repeat=6):
            goings = [pair for pair, is_there in zip(pairs, there) if is_there]
            for rooms in itertools.product((1, 2), repeat=3):
                self.check_map(LaneMap(rooms, goings))

    def test_other_maps(self):
        chance = random.Random(4)
        for _ in range(300):
            self.check_map(random_map(chance, 6, (1, 1, 1, 2)))

    def check_map(self, lanes):
        sharing = sharing_lanes(lanes)
        self.assertTrue(is_tupled(sharing))
        many = len(lanes.rooms)
        self.assertEqual([told[0] for told in sharing], [lane for lane in range(many) if shares(lanes, lane)])
        for lane, one, other in sharing:
            self.assertIn(one, rings_from(lanes, lane))
            self.assertIn(other, rings_from(lanes, lane))
            self.assertEqual(set(one) & set(other), {lane})
        rooms = tuple(2 if shares(lanes, lane) else lanes.rooms[lane] for lane in range(many))
        self.tells(rooms, widened_rooms, lanes)
        self.tells(("trusted",), lane_court, LaneMap(rooms, lanes.goings))
        self.check_court(lanes, sharing)

    def check_court(self, lanes, sharing):
        court = lane_court(lanes)
        if not sharing:
            self.assertEqual(court, ("trusted",))
            return
        self.assertEqual(court[:2], ("built", sharing[0][0]))
        standing = court[2]
        self.tells(standing, need_standing, lanes, standing)
        self.assertIsNone(find_knot(lanes, standing))
        self.assertFalse(is_safe(lanes, standing))
        self.assertTrue(any(self.is_built(lanes, sharing[0][0], standing, one, other)
                            for one in rings_from(lanes, sharing[0][0]) for other in rings_from(lanes, sharing[0][0])))

    def is_built(self, lanes, lane, standing, one, other):
        """Whether the lane is empty, and the robots in the rest of two rings want to go on as told."""
        if set(one) & set(other) != {lane} or standing[lane] != ():
            return False
        for ring, opposite in ((one, other), (other, one)):
            for at in range(1, len(ring)):
                wish = ring[at + 1:at + 2] if at + 1 < len(ring) else (lane,) + opposite[1:]
                row = standing[ring[at]]
                if len(row) != lanes.rooms[ring[at]] or any(way[:len(wish)] != wish for way in row):
                    return False
        return True

    def test_twelve_lanes(self):
        goings = [(lane, (lane + 1) % 12) for lane in range(12)]
        for more in ((), ((5, 0), (11, 6)), ((5, 0), (11, 5)), ((5, 0), (11, 5), (0, 6)), ((3, 9), (8, 1), (5, 4))):
            self.check_map(LaneMap((1,) * 12, goings + list(more)))
        self.assertEqual([told[0] for told in sharing_lanes(LaneMap((1,) * 12, goings + [(5, 0), (11, 5)]))], [5])
        self.assertEqual(sharing_lanes(LaneMap((1,) * 12, goings + [(5, 0), (11, 6)])), ())
        whole = LaneMap((1,) * 12, list(itertools.permutations(range(12), 2)))
        self.assertEqual([told[0] for told in sharing_lanes(whole)], list(range(12)))
        self.assertEqual(lane_court(whole)[:2], ("built", 0))

    def test_the_second_ring_leads_the_first_one_otherwise(self):
        goings = [(0, 1), (1, 2), (2, 0), (0, 3), (3, 2), (1, 4), (4, 5), (5, 0)]
        lanes = LaneMap((1, 2, 2, 2, 2, 2), goings)
        self.assertEqual([told[0] for told in sharing_lanes(lanes)], [0])
        self.check_map(lanes)


class SafeTest(PromiseCase):
    def test_small_standings(self):
        self.tells(("knot", (0, 1, 2)), safe_paper, RING, [[[1]], [[2], []], [[0, 1]]])
        self.tells(("out", ()), safe_paper, RING, [[], [], []])
        self.tells(("out", (2, 2)), safe_paper, LaneMap((1, 1, 2), ()), [[], [], [[], []]])
        self.tells(("out", ()), safe_paper, LaneMap((), ()), [])
        self.tells(("out", ()), safe_paper, EIGHT, [[], [], []])

    def test_a_standing_that_is_not_safe_and_has_no_knot(self):
        standing = ((), ((0, 2),), ((0, 1),))
        paper = safe_paper(EIGHT, standing)
        self.assertEqual(paper[0], "shut")
        self.assertEqual(paper[1], tuple(sorted(all_that_come(EIGHT, standing))))

    def test_random_standings(self):
        chance = random.Random(6)
        kinds = []
        for _ in range(500):
            lanes = random_map(chance, 4)
            standing = random_standing(chance, lanes, 3)
            if len(all_that_come(lanes, standing, 3000)) <= 3000:
                kinds.append(self.check_standing(lanes, standing))
        self.assertGreater(min(kinds.count(kind) for kind in ("knot", "out")), 20)

    def test_random_standings_of_maps_that_are_not_trusted(self):
        chance = random.Random(8)
        kinds = []
        for at in range(400):
            lanes = LaneMap([1] + [chance.choice((1, 1, 2)) for _ in range(2)], EIGHT.goings + ((1, 2),) * (at // 200))
            standing = random_standing(chance, lanes, 3)
            kinds.append(self.check_standing(lanes, ((),) + standing[1:] if at % 2 else standing))
        self.assertGreater(min(kinds.count(kind) for kind in ("knot", "out", "shut")), 9)

    def check_standing(self, lanes, standing):
        paper = safe_paper(lanes, listed(standing))
        self.assertTrue(is_tupled(paper))
        knot = find_knot(lanes, standing)
        come = all_that_come(lanes, standing)
        if knot is not None:
            self.assertEqual(paper, ("knot", knot))
            self.assertFalse(is_safe(lanes, standing))
        elif sharing_lanes(lanes) and len(come) > 600:
            self.assertEqual(paper, ("many",))
            return "many"
        else:
            self.assertEqual(paper[0], "out" if is_safe(lanes, standing) else "shut")
        self.assertTrue(should_hold(lanes, standing, paper), (lanes.rooms, lanes.goings, standing, paper))
        self.assertIs(safe_holds(lanes, standing, paper), True)
        if not sharing_lanes(lanes):
            self.assertEqual(paper[0], "knot" if knot is not None else "out")
            self.check_let(lanes, standing)
        return paper[0]

    def check_let(self, lanes, standing):
        may = [lane for lane in movable(lanes, standing) if not knots(lanes, gone(standing, lane))]
        self.tells(tuple(may), let_goings, lanes, listed(standing))
        if is_safe(lanes, standing):
            self.assertEqual(may, [lane for lane in movable(lanes, standing) if is_safe(lanes, gone(standing, lane))])
            self.assertTrue(may or not any(standing))

    def test_just_six_hundred_standings(self):
        lanes = LaneMap((1, 2, 2), list(itertools.permutations(range(3), 2)))
        self.assertEqual([told[0] for told in sharing_lanes(lanes)], [0])
        six_hundred = ((), ((0, 2, 1, 0, 1, 2, 1, 0, 2, 0, 2), (2, 1, 2, 0, 2, 1, 2, 0, 1)),
                       ((1, 0, 1, 0, 1, 0, 2, 0, 2, 1, 0, 1),))
        one_more = ((), ((0, 1, 2, 1, 0, 1, 2, 1, 0, 2, 1, 0),),
                    ((1, 2, 1, 0, 1, 0, 2, 0, 2, 0, 2, 1), (1, 2, 0, 2, 1, 2, 1, 0, 2, 0)))
        for standing, many in ((six_hundred, 600), (one_more, 601)):
            self.assertEqual(len(all_that_come(lanes, standing)), many)
            self.assertTrue(is_safe(lanes, standing))
            self.check_many(lanes, standing, many)

    def test_many_standings(self):
        for lengths, many in (((4, 4, 5, 3), 600), ((0, 4, 11, 9), 600), ((0, 4, 10, 10), 605), ((4, 4, 4, 4), 625)):
            lanes, standing = self.lines(lengths)
            self.assertEqual(len(all_that_come(lanes, standing)), many)
            self.check_many(lanes, standing, many)
            trusted = LaneMap(widened_rooms(lanes), lanes.goings)
            self.assertEqual(safe_paper(trusted, standing)[0], "out")

    def check_many(self, lanes, standing, many):
        paper = safe_paper(lanes, standing)
        if many > 600:
            self.assertEqual(paper, ("many",))
            self.assertIs(safe_holds(lanes, standing, paper), False)
        else:
            self.assertEqual(paper[0], "out")
            self.assertTrue(should_hold(lanes, standing, paper))

    def lines(self, lengths):
        """A map that is not trusted, and robots alone in pairs of lanes, which have so many goings left."""
        goings = [(0, 1), (1, 0), (0, 2), (2, 0)]
        rows = [(), (), ()]
        for at, length in enumerate(lengths):
            one, other = 3 + 2 * at, 4 + 2 * at
            goings += [(one, other), (other, one)]
            rows += [() if length == 0 else (tuple(([other, one] * length)[:length - 1]),), ()]
        return LaneMap((1,) * len(rows), goings), tuple(rows)

    def test_long_runs_on_trusted_maps(self):
        lanes = LaneMap((9,) * 12, [(lane, (lane + step) % 12) for lane in range(12) for step in (1, 5)])
        standing = random_standing(random.Random(1), lanes, 6)
        paper = safe_paper(lanes, standing)
        self.assertEqual(paper[0], "out" if find_knot(lanes, standing) is None else "knot")
        self.assertIs(safe_holds(lanes, standing, paper), True)

    def test_let_goings_of_maps_that_are_not_trusted(self):
        self.told(Refused, 0, let_goings, EIGHT, [[], [], []])
        self.told(InvalidStanding, -1, let_goings, EIGHT, [[], []])
        self.told(InvalidLanes, -1, let_goings, None, [[], []])
        lanes = LaneMap((2, 1, 1, 1, 1), ((0, 1), (1, 0), (0, 2), (2, 0), (3, 4), (4, 3), (3, 2), (2, 3)))
        self.assertEqual([told[0] for told in sharing_lanes(lanes)], [2, 3])
        self.told(Refused, 2, let_goings, lanes, [[], [], [], [], []])

    def test_let_goings(self):
        two = LaneMap((1, 1, 1), ((0, 1), (1, 0), (2, 1)))
        self.tells((0,), let_goings, two, [[[1]], [], [[1, 0]]])
        self.tells((0, 2), let_goings, two, [[[1]], [], [[1]]])
        self.tells((), let_goings, two, [[[1]], [[0]], []])
        self.tells((), let_goings, two, [[[1]], [[0]], [[]]])

    def test_what_holds(self):
        cases = [(RING, (((1,),), ((2,), ()), ((0, 1),))), (RING, (((1,),), ((2,),), ())), (EIGHT, ((), ((0, 2),), ((0, 1),))),
                 (EIGHT, (((1,),), (), ((),))), (EIGHT, (((1, 0, 2),), ((0, 2),), ((0, 1),))), (RING, ((), (), ()))]
        for lanes, standing in cases:
            some = [("out", goings) for many in range(5) for goings in itertools.product(range(3), repeat=many)]
            some += [("knot", ring) for many in range(4) for ring in itertools.product(range(3), repeat=many)]
            some += [("knot", (0, 1, 2, 0, 1, 2)), ("knot", (0, 1, 0, 1)), ("many",), ("many", ()), ("trusted",)]
            papers = [safe_paper(lanes, standing)]
            changed = [value for paper in papers for value in changed_a_little(paper)]
            for value in some + papers + changed + odd_values():
                if not self.is_open_question(lanes, standing, value):
                    self.holds_just_if(should_hold(lanes, standing, value), safe_holds, lanes, standing, value)

    def is_open_question(self, lanes, standing, value):
        """A lot of standings where there is a knot, too: the document can be read both ways."""
        return isinstance(value, tuple) and value[:1] == ("shut",) and len(knots(lanes, standing)) > 0

    def test_other_lots_of_standings(self):
        standing = ((), ((0, 2),), ((0, 1),))
        come = sorted(all_that_come(EIGHT, standing))
        more = ((), ((0, 2),), ((0, 1, 0),))
        wide = sorted(set(come) | all_that_come(EIGHT, more))
        self.assertGreater(len(wide), len(come))
        for lot in (come, wide, come[:-1], come[1:], come[::-1], come + come[-1:], [], wide + [((), (), ())],
                    sorted(wide + [((), (), ())]), sorted(come + [more]), [listed(one) for one in come],
                    come[:1] + [((), ((0, True),), ((0, 1),))], come + [None]):
            value = ("shut", tuple(lot))
            self.holds_just_if(should_hold(EIGHT, standing, value), safe_holds, EIGHT, standing, value)
        self.holds_just_if(False, safe_holds, EIGHT, standing, ("shut", come))
        self.holds_just_if(False, safe_holds, EIGHT, standing, ["shut", tuple(come)])
        self.holds_just_if(True, safe_holds, EIGHT, listed(standing), ("shut", tuple(wide)))

    def test_any_knot_holds_but_only_one_is_told(self):
        lanes = LaneMap((1,) * 4, ((0, 1), (1, 0), (2, 3), (3, 2)))
        standing = (((1,),), ((0,),), ((3,),), ((2,),))
        self.tells(("knot", (0, 1)), safe_paper, lanes, standing)
        for ring, holds in (((0, 1), True), ((2, 3), True), ((1, 0), False), ((3, 2), False), ((0, 1, 2, 3), False)):
            self.holds_just_if(holds, safe_holds, lanes, standing, ("knot", ring))


if __name__ == "__main__":
    unittest.main()
