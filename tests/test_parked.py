"""[22], [23]: robots parked in ends: fewest trips, and exchanges."""

import itertools
import math
import random
import unittest

from nobodymeets.errors import InvalidHall, InvalidStanding, NoRobot, Refused
from nobodymeets.halls import Hall, read_drawing
from nobodymeets.parked import end_lots, exchange_moves, trip_paper, trips_hold
from nobodymeets.standings import turned_count
from tests.hall_worlds import ends_in, has_leg, is_free, led_to, tied_hall
from tests.helpers import (PromiseCase, changed_a_little, is_below, is_int, is_tupled, listed, no_sequences, odd_values,
                           same)

# Three ends around one free cell.
STAR = read_drawing("P.P\n#P#")
# Three ends, a floor with a cell at which three meet.
TEE = tied_hall("...." "ppp", [(0, 1), (0, 2), (0, 3), (1, 4), (2, 5), (3, 6)])


def row_hall(inner, lefts, rights, middles=()):
    """A row of free cells, with ends beside its first and its last cell, and beside inner ones."""
    ties = [(cell, cell + 1) for cell in range(inner - 1)]
    ends = [0] * lefts + [inner - 1] * rights + list(middles)
    ties += [(door, inner + number) for number, door in enumerate(ends)]
    return tied_hall("." * inner + "p" * len(ends), ties)


def ring_hall(inner, doors):
    ties = [(cell, (cell + 1) % inner) for cell in range(inner)]
    return tied_hall("." * inner + "p" * len(doors), ties + [(door, inner + at) for at, door in enumerate(doors)])


def is_open_hall(hall):
    return all(has_leg(hall, one, other) for one, other in itertools.permutations(ends_in(hall), 2))


def random_open_halls(chance, many, most):
    """Two-way halls that are open."""
    found = 0
    while found < many:
        cells = chance.randint(2, most)
        share = chance.choice((0.3, 0.5))
        hall = tied_hall([chance.choice("..ph") for _ in range(cells)],
                         [pair for pair in itertools.combinations(range(cells), 2) if chance.random() < share])
        if is_open_hall(hall) and len(ends_in(hall)) > 1:
            found += 1
            yield hall


def standing_of(cells):
    """A standing of robots 0, 1, .. in cells."""
    return tuple(enumerate(cells))


def fewest_trips(hall, begin, end):
    """By all standings, trip by trip."""
    ends = ends_in(hall)
    came, level, many = {begin}, [begin], 0
    while end not in came:
        many += 1
        after = {tuple((robot, other if robot == mover else cell) for robot, cell in standing)
                 for standing in level for mover, _ in standing for other in ends
                 if other not in [cell for _, cell in standing]}
        level = sorted(after - came)
        came |= after
    return many


def is_trips_paper(hall, begin, end, value):
    """[22]: straight from the document."""
    if not isinstance(value, tuple) or len(value) != 2 or not is_int(value[0]) or not isinstance(value[1], tuple):
        return False
    if value[0] != len(value[1]) or value[0] != fewest_trips(hall, begin, end):
        return False
    now = dict(begin)
    for trip in value[1]:
        if not isinstance(trip, tuple) or len(trip) != 2 or not is_int(trip[0]) or trip[0] not in now:
            return False
        if not is_below(trip[1], hall.cells) or is_free(hall, trip[1]) or trip[1] in now.values():
            return False
        now[trip[0]] = trip[1]
    return now == dict(end)


def floor_of(hall):
    """The first piece of free cells beside all ends, or None."""
    for cell in range(hall.cells):
        if is_free(hall, cell):
            piece = {cell} | {near for near in led_to(hall, [cell], lambda near: is_free(hall, near)) if is_free(hall, near)}
            if min(piece) == cell and all(any(near in piece for near in hall.followers[end]) for end in ends_in(hall)):
                return piece
    return None


def can_exchange(hall, floor, one, other):
    """Whether two robots exchange their ends by moves in the floor and these ends, by all places of both."""
    cells = floor | {one, other}
    found, left = {(one, other)}, [(one, other)]
    while left:
        a, b = left.pop()
        for pair in [(c, b) for c in hall.followers[a]] + [(a, c) for c in hall.followers[b]]:
            if pair not in found and pair[0] != pair[1] and set(pair) <= cells:
                found.add(pair)
                left.append(pair)
    return (other, one) in found


def lots_of(hall):
    floor = floor_of(hall)
    lots = {end: {end} for end in ends_in(hall)}
    for one, other in itertools.combinations(ends_in(hall), 2):
        if other not in lots[one] and can_exchange(hall, floor, one, other):
            together = lots[one] | lots[other]
            lots.update({end: together for end in together})
    return tuple(sorted({tuple(sorted(lot)) for lot in lots.values()}))


class TripTest(PromiseCase):
    def test_example(self):
        self.tells(((0,), (2,), (3,)), end_lots, STAR)
        self.assertEqual(trip_paper(STAR, [(0, 0), (1, 2)], [(0, 2), (1, 0)])[0], 3)

    def test_at_their_goals_already(self):
        self.tells((0, ()), trip_paper, STAR, ((0, 0), (1, 2)), ((0, 0), (1, 2)))
        self.tells((0, ()), trip_paper, STAR, (), ())
        self.tells((0, ()), trip_paper, read_drawing("P"), (), ())
        self.holds_just_if(True, trips_hold, STAR, (), (), (0, ()))
        self.holds_just_if(False, trips_hold, STAR, (), (), (False, ()))

    def test_one_end_empty_and_more(self):
        self.tells((1, ((7, 2),)), trip_paper, STAR, [(7, 0)], [[7, 2]])
        self.tells((2, ((5, 3), (7, 2))), trip_paper, STAR, ((5, 2), (7, 0)), ((5, 3), (7, 2)))
        self.tells((2, ((7, 3), (5, 2))), trip_paper, STAR, ((5, 0), (7, 2)), ((5, 2), (7, 3)))

    def test_rings_of_two_and_of_more(self):
        hall = tied_hall("." + "p" * 6, [(0, end) for end in range(1, 7)])
        for goals, many in (((2, 1, 3, 4, 5), 3), ((2, 3, 1, 4, 5), 4), ((2, 1, 4, 3, 5), 6), ((2, 3, 4, 5, 1), 6),
                            ((2, 3, 1, 5, 4), 7), ((2, 3, 4, 5, 6), 5), ((1, 2, 3, 4, 6), 1), ((2, 1, 3, 4, 6), 4)):
            begin, end = standing_of((1, 2, 3, 4, 5)), standing_of(goals)
            paper = trip_paper(hall, begin, end)
            self.assertEqual((paper[0], fewest_trips(hall, begin, end)), (many, many))
            self.assertTrue(is_trips_paper(hall, begin, end, paper))

    def test_papers_by_chance(self):
        chance = random.Random(1)
        for hall in random_open_halls(chance, 250, 7):
            ends = ends_in(hall)
            robots = sorted(chance.sample(range(9), chance.randint(0, min(4, len(ends) - 1))))
            begin = tuple(zip(robots, chance.sample(ends, len(robots))))
            end = tuple(zip(robots, chance.sample(ends, len(robots))))
            paper = trip_paper(hall, begin, end)
            self.assertTrue(is_tupled(paper) and is_trips_paper(hall, begin, end, paper))
            self.holds_just_if(True, trips_hold, hall, begin, end, paper)
            self.tells(paper, trip_paper, hall, listed(begin), listed(end))
            if chance.random() < 0.4:
                for value in changed_a_little(paper):
                    self.holds_just_if(is_trips_paper(hall, begin, end, value), trips_hold, hall, begin, end, value)

    def test_any_fewest_trips(self):
        begin, end = ((0, 0), (1, 2)), ((0, 2), (1, 0))
        for trips, expected in ((((0, 3), (1, 0), (0, 2)), True), (((1, 3), (0, 2), (1, 0)), True), (((0, 3), (1, 0)), False),
                                (((0, 3), (0, 0), (0, 3), (1, 0), (0, 2)), False), (((0, 2), (1, 0), (0, 2)), False),
                                (((0, 1), (1, 0), (0, 2)), False), (((2, 3), (1, 0), (0, 2)), False),
                                (((0, 3), (1, 0), (0, 0)), False), (([0, 3], (1, 0), (0, 2)), False)):
            self.assertEqual(is_trips_paper(STAR, begin, end, (len(trips), trips)), expected, trips)
            self.holds_just_if(expected, trips_hold, STAR, begin, end, (len(trips), trips))
        self.holds_just_if(False, trips_hold, STAR, begin, end, (4, ((0, 3), (1, 0), (0, 2))))
        for many in (3, 5):
            self.holds_just_if(False, trips_hold, STAR, begin, end, (many, ((0, 3), (0, 0), (0, 3), (1, 0), (0, 2))))
        self.holds_just_if(False, trips_hold, STAR, ((0, 0),), ((0, 2),), (True, ((0, 2),)))
        self.holds_just_if(True, trips_hold, STAR, ((0, 0),), ((0, 2),), (1, ((0, 2),)))
        self.holds_just_if(False, trips_hold, STAR, ((0, 0),), ((0, 2),), (1, ((False, 2),)))
        for value in odd_values():
            for item in (value, (value,), (value, value), (3, value), (value, ((0, 3), (1, 0), (0, 2))), (3, (value,) * 3)):
                self.holds_just_if(False, trips_hold, STAR, begin, end, item)

    def test_errors_in_order(self):
        one_way = read_drawing("P>P")
        row = read_drawing("P.PP")
        for call, more in ((trip_paper, ()), (trips_hold, (None,))):
            for value in odd_values():
                if not isinstance(value, Hall):
                    self.told(InvalidHall, -1, call, value, None, None, *more)
            for value in no_sequences():
                self.told(InvalidStanding, -1, call, one_way, value, None, *more)
                self.told(InvalidStanding, -1, call, one_way, (), value, *more)
            for value, at in ((((0, 9),), 0), (((0, 0), (0, 2)), 1), (((0, 0), (1, 0)), 1), (((1, 0), (0, 2)), 1),
                              (((0, 0), None), 1), (((0, True),), 0), (((0, 0, 0),), 0)):
                self.told(InvalidStanding, at, call, one_way, value, None, *more)
                self.told(InvalidStanding, at, call, one_way, (), value, *more)
            self.told(Refused, "ways", call, one_way, ((0, 1),), (), *more)
            self.told(Refused, "open", call, row, ((0, 1),), (), *more)
            self.told(Refused, "ends", call, STAR, ((0, 1),), (), *more)
            self.told(Refused, "ends", call, STAR, (), ((0, 1),), *more)
            self.told(Refused, "robots", call, STAR, ((0, 0),), (), *more)
            self.told(Refused, "robots", call, STAR, ((0, 0), (1, 2), (2, 3)), ((0, 0), (1, 2), (3, 3)), *more)
            self.told(Refused, "full", call, STAR, ((0, 0), (1, 2), (2, 3)), ((0, 0), (1, 2), (2, 3)), *more)
            self.told(Refused, "full", call, read_drawing(".."), (), (), *more)


class LotTest(PromiseCase):
    def test_halls_with_few_ends(self):
        self.tells((), end_lots, read_drawing(".."))
        self.tells(((0,),), end_lots, read_drawing("P."))
        self.tells(((0,), (2,)), end_lots, read_drawing("P.P"))
        self.tells(((0,), (3,)), end_lots, read_drawing("P..P"))
        for text in ("P", "PP"):
            self.told(Refused, "floor", end_lots, read_drawing(text))
        self.told(Refused, "floor", end_lots, read_drawing("PP\n.#"))

    def test_errors_in_order(self):
        self.told(Refused, "ways", end_lots, read_drawing("P>P"))
        self.told(Refused, "ways", end_lots, read_drawing("P>PP"))
        self.told(Refused, "open", end_lots, read_drawing("P.PP"))
        for value in odd_values():
            if not isinstance(value, Hall):
                self.told(InvalidHall, -1, end_lots, value)
                self.told(InvalidHall, -1, exchange_moves, value, None, None, None)

    def test_the_first_piece_beside_all_ends(self):
        # Cell 0 is beside one end alone, cells 3 and 4 beside both: the floor is cells 3 and 4, not 5.
        hall = tied_hall(".pp...", [(0, 1), (1, 3), (3, 4), (4, 2), (1, 5), (5, 2)])
        self.assertEqual(floor_of(hall), {3, 4})
        self.tells(((1,), (2,)), end_lots, hall)

    def test_ends_side_by_side_and_beside_the_floor(self):
        # A ring of three: two ends and the floor's one cell.
        hall = tied_hall(".pp", [(0, 1), (0, 2), (1, 2)])
        self.tells(((1, 2),), end_lots, hall)
        moves = exchange_moves(hall, ((0, 1), (1, 2)), 0, 1)
        self.check_moves(hall, ((0, 1), (1, 2)), 0, 1, moves)

    def test_one_lot_where_three_meet(self):
        self.tells(((4, 5, 6),), end_lots, TEE)

    def test_one_lot_in_a_ring(self):
        for doors in ((0, 1), (0, 0), (0, 1, 2), (2, 2, 2)):
            hall = ring_hall(3, doors)
            self.tells((tuple(range(3, 3 + len(doors))),), end_lots, hall)
        self.tells((tuple(range(5, 8)),), end_lots, ring_hall(5, (0, 2, 2)))

    def test_rows(self):
        self.tells(((3, 4),), end_lots, row_hall(3, 2, 0))
        self.tells(((2, 3),), end_lots, row_hall(2, 2, 0))
        self.tells(((3, 4, 5),), end_lots, row_hall(3, 1, 1, (1,)))
        self.tells(((3,), (4, 5)), end_lots, row_hall(3, 1, 2))
        self.tells(((3, 4), (5, 6)), end_lots, row_hall(3, 2, 2))
        self.tells(((2, 3), (4,)), end_lots, row_hall(2, 2, 1))
        # An end beside both the first and the last cell.
        both = tied_hall("..ppp", [(0, 1), (0, 2), (1, 3), (0, 4), (1, 4)])
        self.tells(((2, 3, 4),), end_lots, both)

    def test_a_floor_of_one_cell(self):
        hall = tied_hall("." + "p" * 4, [(0, end) for end in range(1, 5)])
        self.tells(((1,), (2,), (3,), (4,)), end_lots, hall)
        self.tells(None, exchange_moves, hall, standing_of((1, 2, 3, 4)), 0, 2)

    def test_halls_by_chance(self):
        chance = random.Random(2)
        floors = 0
        for hall in random_open_halls(chance, 500, 7):
            if floor_of(hall) is None:
                self.told(Refused, "floor", end_lots, hall)
                continue
            floors += 1
            self.tells(lots_of(hall), end_lots, hall)
        self.assertGreater(floors, 150)

    def test_no_others_do(self):
        """Where there is nothing but the floor and ends, each beside one floor cell and no end."""
        for hall in (TEE, row_hall(3, 2, 2), row_hall(2, 2, 1), row_hall(3, 1, 1, (1,)), ring_hall(3, (0, 1)),
                     ring_hall(4, (0, 0, 2)), row_hall(1, 3, 0), row_hall(4, 1, 2), row_hall(2, 3, 0)):
            lots = end_lots(hall)
            standing = standing_of(ends_in(hall))
            orders = math.prod(math.factorial(len(lot)) for lot in lots)
            self.assertEqual(turned_count(hall, standing), orders)

    def check_moves(self, hall, standing, one, other, moves):
        """That just these two exchange, all moves being into empty cells of the floor and their own ends."""
        self.assertTrue(is_tupled(moves))
        now = dict(standing)
        floor = floor_of(hall)
        for robot, cell in moves:
            self.assertTrue((now[robot], cell) in hall.ways and cell not in now.values())
            self.assertTrue(cell in floor or not is_free(hall, cell))
            now[robot] = cell
        goals = dict(standing)
        goals[one], goals[other] = goals[other], goals[one]
        self.assertEqual(now, goals)

    def test_exchanges(self):
        self.tells((), exchange_moves, TEE, standing_of((4, 5, 6)), 1, 1)
        self.tells((), exchange_moves, STAR, standing_of((0, 2, 3)), 1, 1)
        self.tells(None, exchange_moves, STAR, standing_of((0, 2, 3)), 0, 1)
        halls = [TEE, row_hall(3, 2, 2), row_hall(2, 2, 1), row_hall(3, 1, 1, (1,)), ring_hall(3, (0, 1, 2)),
                 ring_hall(4, (0, 0, 2)), row_hall(2, 3, 0), tied_hall("..ppp", [(0, 1), (0, 2), (1, 3), (0, 4), (1, 4)])]
        for hall in itertools.chain(halls, random_open_halls(random.Random(3), 250, 7)):
            if floor_of(hall) is not None:
                self.check_exchanges(hall)

    def check_exchanges(self, hall):
        ends = ends_in(hall)
        robots = [7 * number % 11 for number in range(len(ends))]
        standing = tuple(sorted(zip(robots, ends)))
        lots = lots_of(hall)
        for one, other in itertools.product(robots, repeat=2):
            cells = {dict(standing)[one], dict(standing)[other]}
            moves = exchange_moves(hall, standing, one, other)
            if one == other:
                self.assertTrue(same(moves, ()))
            elif any(cells <= set(lot) for lot in lots):
                self.check_moves(hall, standing, one, other, moves)
            else:
                self.assertIsNone(moves)

    def test_ends_of_a_lot_that_can_not_exchange_at_once(self):
        # Ends 2 and 3 are beside the row's two cells; end 4, beside both, exchanges with either of them.
        hall = tied_hall("..ppp", [(0, 1), (0, 2), (1, 3), (0, 4), (1, 4)])
        self.assertFalse(can_exchange(hall, {0, 1}, 2, 3))
        self.check_moves(hall, standing_of((2, 3, 4)), 0, 1, exchange_moves(hall, standing_of((2, 3, 4)), 0, 1))
        self.check_moves(hall, standing_of((4, 2, 3)), 2, 1, exchange_moves(hall, standing_of((4, 2, 3)), 2, 1))

    def test_wrong_exchanges(self):
        standing = ((0, 4), (2, 5), (5, 6))
        for value in odd_values() + [1, 3, 6, -1, True]:
            if not is_int(value) or value not in (0, 2, 5):
                self.told(NoRobot, value, exchange_moves, TEE, standing, value, None)
                self.told(NoRobot, value, exchange_moves, TEE, standing, 0, value)
        for value in no_sequences():
            self.told(InvalidStanding, -1, exchange_moves, TEE, value, None, None)
        self.told(InvalidStanding, 1, exchange_moves, TEE, ((0, 4), (0, 5)), None, None)
        self.told(NoRobot, 0, exchange_moves, TEE, (), 0, 0)
        # No robot is told ahead of what else is refused.
        self.told(NoRobot, 9, exchange_moves, read_drawing("P>P"), ((0, 0),), 0, 9)
        self.told(Refused, "ways", exchange_moves, read_drawing("P>P"), ((0, 0),), 0, 0)
        self.told(Refused, "open", exchange_moves, read_drawing("P.PP"), ((0, 1),), 0, 0)
        self.told(Refused, "ends", exchange_moves, TEE, ((0, 4), (2, 5)), 0, 2)
        self.told(Refused, "ends", exchange_moves, TEE, ((0, 4), (2, 5), (3, 0)), 0, 2)
        self.told(Refused, "ends", exchange_moves, read_drawing("PP\n.#"), ((0, 0),), 0, 0)
        self.told(Refused, "floor", exchange_moves, read_drawing("PP\n.#"), ((0, 0), (1, 1)), 0, 0)


if __name__ == "__main__":
    unittest.main()
