"""[17], [18], [19]: needful and lost cells, ends kept, and ways through empty ends."""

import itertools
import random
import unittest

from nobodymeets.court import court_holds, court_paper
from nobodymeets.errors import InvalidCell, InvalidHall, InvalidLot, InvalidSize, Refused
from nobodymeets.halls import Hall, change_kind, lose_cells, read_drawing
from nobodymeets.opened import (greatest_ends, kept_paper, lost_paper, many_holds, many_paper, more_ends, most_robots,
                                needful_cells, needful_pair)
from tests.hall_worlds import (ends_in, has_leg, is_free, is_row_of_ways, led_to, random_halls, subsets, tied_hall)
from tests.helpers import (PromiseCase, changed_a_little, is_below, is_rising, is_tupled, listed, no_integers,
                           no_numbers_below, no_sequences, odd_values, same)

T_HALL = read_drawing("P.H\n#.#\n#S#")
ROW = read_drawing("P.HS")
# Ends in a ring: each is beside two others.
RING = tied_hall("pppp", [(0, 1), (1, 2), (2, 3), (3, 0)])
KINDS = ("free", "free", "park", "shelf", "station")


def first_barred(hall):
    """The first pair of ends without a leg, or None."""
    for pair in itertools.permutations(ends_in(hall), 2):
        if not has_leg(hall, *pair):
            return pair
    return None


def kept_hall(hall, kept):
    return Hall([kind if cell in kept else "free" for cell, kind in enumerate(hall.kinds)], hall.ways)


def can_go(hall, one, other, standing):
    """Whether a robot can go from an end to an other, the others standing, through empty ends, too."""
    return other in led_to(hall, [one], lambda cell: cell not in standing)


def is_open_for(hall, robots):
    """[19]: straight from the document."""
    ends = ends_in(hall)
    for places in itertools.combinations(ends, robots):
        for one in places:
            for other in ends:
                if other not in places and not can_go(hall, one, other, places):
                    return False
    return True


def fewest_bars(hall, one, other):
    """How many other ends at least bar all ways from one to an other; None: no ends do."""
    others = [end for end in ends_in(hall) if end not in (one, other)]
    for lot in subsets(others):
        if not can_go(hall, one, other, lot):
            return len(lot)
    return None


def is_many_paper(hall, robots, value):
    """[19]: whether a value is a paper, straight from the document."""
    if not isinstance(value, tuple) or not value or not isinstance(value[0], str):
        return False
    ends = ends_in(hall)
    if value[0] == "barred" and len(value) == 4:
        one, other, lot = value[1:]
        if not all(is_below(end, hall.cells) and end in ends for end in (one, other)) or one == other:
            return False
        if not isinstance(lot, tuple) or not all(is_below(end, hall.cells) for end in lot) or not is_rising(lot):
            return False
        if len(lot) >= robots or not all(end in ends and end not in (one, other) for end in lot):
            return False
        return not can_go(hall, one, other, lot)
    if value[0] != "open" or len(value) != 2 or not isinstance(value[1], tuple):
        return False
    pairs = list(itertools.permutations(ends, 2))
    return len(value[1]) == len(pairs) and all(are_ways(hall, robots, *pair, row) for pair, row in zip(pairs, value[1]))


def are_ways(hall, robots, one, other, row):
    if not isinstance(row, tuple) or len(row) != 3 or not same(row[:2], (one, other)) or not isinstance(row[2], tuple):
        return False
    for way in row[2]:
        if not is_row_of_ways(hall, way) or len(way) < 2 or (way[0], way[-1]) != (one, other):
            return False
        if one in way[1:-1] or other in way[1:-1]:
            return False
    lots = [{cell for cell in way[1:-1] if not is_free(hall, cell)} for way in row[2]]
    if len(lots) == 1 and not lots[0]:
        return True
    return len(lots) == robots and not any(a & b for a, b in itertools.combinations(lots, 2))


class LostTest(PromiseCase):
    def test_examples(self):
        self.tells((1, 3), needful_cells, T_HALL)
        self.assertEqual(most_robots(ROW), 1)

    def test_halls_with_few_ends(self):
        for text in ("..", ".P.", ".", "P"):
            hall = read_drawing(text)
            self.tells((), needful_cells, hall)
            for cell in hall.cells_of("free"):
                self.tells(None, needful_pair, hall, cell)
            self.tells(("open", ()), lost_paper, hall, hall.cells_of("free"))
        self.tells((1,), needful_cells, read_drawing("P.H"))
        self.tells((), needful_cells, read_drawing("PH\n.."))
        self.tells((), needful_cells, read_drawing("P.H\n..."))

    def test_halls_that_are_not_open(self):
        for call, more in ((needful_cells, ()), (needful_pair, (1,)), (more_ends, ())):
            self.told(Refused, (0, 3), call, ROW, *more)
        self.told(Refused, (2, 0), needful_cells, read_drawing("P>H"))
        self.told(InvalidCell, -1, needful_pair, ROW, 0)

    def test_needful_pairs(self):
        self.tells((0, 2), needful_pair, T_HALL, 1)
        self.tells((0, 4), needful_pair, T_HALL, 3)
        for cell in no_numbers_below(5) + [0, 2, 4]:
            self.told(InvalidCell, -1, needful_pair, T_HALL, cell)

    def test_lost_cells_that_bar_and_such_that_do_not(self):
        hall = read_drawing("P..H\n#..#")
        self.assertEqual(lost_paper(hall, ())[0], "open")
        self.assertEqual([lost_paper(hall, [cell])[0] for cell in (1, 2, 4, 5)], ["barred", "barred", "open", "open"])
        self.tells(("barred", 0, 3, ()), lost_paper, hall, [1, 5])
        self.tells(("barred", 0, 3, (1, 4)), lost_paper, hall, (5, 2))
        round_about = read_drawing("P.H\n.#.\n...")
        # Single ones do no harm, but two of them do.
        self.tells((), needful_cells, round_about)
        self.tells(("barred", 0, 2, (3,)), lost_paper, round_about, [1, 5])
        self.assertEqual(lost_paper(round_about, [6, 5, 3, 7, 4])[0], "open")

    def test_lost_cells_of_a_hall_that_is_not_open(self):
        self.tells(("barred", 0, 2, ()), lost_paper, ROW, (1,))

    def test_wrong_lost_cells(self):
        for lost, at in [(value, -1) for value in no_sequences()] + [
                ((0,), 0), ((1, 2), 1), ((1, 1), 1), ((3, 1, 3), 2), ((5,), 0), ((True,), 0), ((1, None), 1), ((-1,), 0),
                (((1,),), 0), ([3, 9, 9], 1)]:
            self.told(InvalidLot, at, lost_paper, T_HALL, lost)

    def test_halls_by_chance(self):
        chance = random.Random(1)
        opened = 0
        for hall in random_halls(chance, 600, 7, KINDS):
            free = [cell for cell in range(hall.cells) if is_free(hall, cell)]
            chance.shuffle(free)
            lost = free[:chance.randint(0, len(free))]
            left = Hall(hall.kinds, [way for way in hall.ways if not set(way) & set(lost)])
            self.tells(court_paper(left), lost_paper, hall, lost)
            self.assertEqual(lost_paper(hall, lost)[0] == "open", first_barred(left) is None)
            pair = first_barred(hall)
            if pair is not None:
                self.told(Refused, pair, needful_cells, hall)
                self.told(Refused, pair, more_ends, hall)
                continue
            opened += 1
            parted = {cell: first_barred(lose_cells(hall, [cell])) for cell in sorted(free)}
            for cell, told in parted.items():
                self.tells(told, needful_pair, hall, cell)
            self.tells(tuple(cell for cell in parted if parted[cell] is not None), needful_cells, hall)
            more = tuple(cell for cell in sorted(free) if first_barred(change_kind(hall, cell, "shelf")) is None)
            self.tells(more, more_ends, hall)
        self.assertGreater(opened, 150)

    def test_lots_that_can_be_lost(self):
        chance = random.Random(2)
        for hall in random_halls(chance, 60, 6, KINDS):
            free = [cell for cell in range(hall.cells) if is_free(hall, cell)]
            harmless = {lot for lot in subsets(free) if lost_paper(hall, lot)[0] == "open"}
            for lot in subsets(free):
                if lot not in harmless:
                    self.assertFalse(any(set(lot) < set(other) for other in harmless))
            if first_barred(hall) is None:
                for cell in needful_cells(hall):
                    self.assertFalse(any(cell in lot for lot in harmless))

    def test_wrong_halls(self):
        for value in odd_values():
            if not isinstance(value, Hall):
                for call, more in ((lost_paper, (None,)), (needful_pair, (None,)), (needful_cells, ()), (kept_paper, (None,)),
                                   (greatest_ends, (None,)), (more_ends, ()), (many_paper, (None,)),
                                   (many_holds, (None, None)), (most_robots, ())):
                    self.told(InvalidHall, -1, call, value, *more)


class KeptTest(PromiseCase):
    def test_all_ends_kept_and_none(self):
        self.tells(("barred", 0, 3, (1,)), kept_paper, ROW, (0, 2, 3))
        self.tells(("open", ()), kept_paper, ROW, ())
        self.tells(("open", ()), kept_paper, ROW, [2])
        self.tells(("open", ((0, 1, 2, 3), (3, 2, 1, 0))), kept_paper, ROW, (3, 0))
        self.tells(("open", ((0, 1, 2), (2, 1, 0))), kept_paper, ROW, (2, 0))

    def test_kept_hall_keeps_ways_that_go_between_places(self):
        self.holds_just_if(True, court_holds, kept_hall(ROW, (0, 3)), kept_paper(ROW, (0, 3)))

    def test_wrong_ends(self):
        for ends, at in [(value, -1) for value in no_sequences()] + [
                ((1,), 0), ((0, 0), 1), ((3, 2, 3), 2), ((4,), 0), ((True,), 0), ((0, None), 1), ((-1,), 0), (((0,),), 0)]:
            self.told(InvalidLot, at, kept_paper, ROW, ends)
            self.told(InvalidLot, at, greatest_ends, ROW, ends)

    def test_greatest_ends(self):
        self.tells(((0, 2), (0, 3), (2, 3)), greatest_ends, ROW, ())
        self.tells(((0, 2), (2, 3)), greatest_ends, ROW, [2])
        self.tells(((0, 3),), greatest_ends, ROW, (3, 0))
        self.tells((), greatest_ends, ROW, (0, 3, 2))
        self.tells(((0, 2, 4),), greatest_ends, T_HALL, ())
        self.tells(((),), greatest_ends, read_drawing(".."), ())
        # Lots of fewer ends first, then ascending.
        hall = read_drawing("PHS#.P.P")
        self.assertEqual(greatest_ends(hall, ()), self.plain_greatest(hall, ()))

    def plain_greatest(self, hall, must):
        """All lots that may be kept and are in no other one that may, told by going through all."""
        lots = [lot for lot in subsets(ends_in(hall)) if set(must) <= set(lot) and first_barred(kept_hall(hall, lot)) is None]
        greatest = [lot for lot in lots if not any(set(lot) < set(other) for other in lots)]
        return tuple(sorted(greatest, key=lambda lot: (len(lot), lot)))

    def test_more_ends_than_are_let(self):
        star = tied_hall("." + "p" * 11, [(0, end) for end in range(1, 12)])
        self.told(Refused, 10, greatest_ends, star, ())
        self.tells((tuple(range(1, 12)),), greatest_ends, star, (7,))
        row = tied_hall("p" * 11, [(cell, cell + 1) for cell in range(10)])
        self.told(Refused, 10, greatest_ends, row, [])
        self.tells(tuple((5, cell) if cell > 5 else (cell, 5) for cell in range(11) if cell != 5), greatest_ends, row, [5])
        self.told(InvalidLot, 1, greatest_ends, star, (7, 7))

    def test_halls_by_chance(self):
        chance = random.Random(3)
        for hall in random_halls(chance, 250, 6, KINDS):
            ends = ends_in(hall)
            chance.shuffle(ends)
            must = ends[:chance.choice((0, 0, 1, 2))]
            self.tells(self.plain_greatest(hall, must), greatest_ends, hall, must)
            self.assertTrue(is_tupled(greatest_ends(hall, listed(must))))
            kept = chance.sample(ends, chance.randint(0, len(ends)))
            self.tells(court_paper(kept_hall(hall, kept)), kept_paper, hall, kept)
            # Each lot within one that may be kept may be, too.
            greatest = greatest_ends(hall, ())
            for lot in subsets(sorted(ends)):
                within = any(set(lot) <= set(other) for other in greatest)
                self.assertEqual(kept_paper(hall, lot)[0] == "open", within)

    def test_more_ends(self):
        self.tells((), more_ends, read_drawing("P.H"))
        self.tells((1, 3, 4, 5), more_ends, read_drawing("P.H\n..."))
        self.tells((3,), more_ends, read_drawing("P.H\n#.#"))
        self.tells((0,), more_ends, read_drawing("."))
        self.tells((0, 1), more_ends, read_drawing(".."))


class ManyTest(PromiseCase):
    def test_halls_with_few_ends(self):
        for text in ("..", ".P.", "P"):
            hall = read_drawing(text)
            self.tells(0, most_robots, hall)
            for robots in (0, 1, 2, None, True):
                self.told(InvalidSize, "robots", many_paper, hall, robots)
                self.told(InvalidSize, "robots", many_holds, hall, robots, None)
        pair = read_drawing("P.H")
        self.tells(1, most_robots, pair)
        self.tells(("open", ((0, 2, ((0, 1, 2),)), (2, 0, ((2, 1, 0),)))), many_paper, pair, 1)
        self.told(InvalidSize, "robots", many_paper, pair, 2)
        apart = read_drawing("P#H")
        self.tells(0, most_robots, apart)
        self.tells(("barred", 0, 1, ()), many_paper, apart, 1)

    def test_wrong_robots(self):
        for robots in no_integers() + [0, -1, 3, 10 ** 9]:
            self.told(InvalidSize, "robots", many_paper, ROW, robots)
            self.told(InvalidSize, "robots", many_holds, ROW, robots, None)

    def test_a_row(self):
        self.tells(("barred", 0, 3, (2,)), many_paper, ROW, 2)
        self.assertEqual(many_paper(ROW, 1)[0], "open")
        self.assertEqual(many_paper(ROW, 1)[1][1], (0, 3, ((0, 1, 2, 3),)))

    def test_a_ring(self):
        self.tells(2, most_robots, RING)
        self.assertTrue(is_many_paper(RING, 2, many_paper(RING, 2)))
        self.tells(("barred", 0, 2, (1, 3)), many_paper, RING, 3)

    def test_open_for_all_but_one_just_if_open(self):
        self.tells(2, most_robots, T_HALL)
        self.tells(("open", tuple((one, other, (leg,)) for (one, other), leg in zip(
            itertools.permutations((0, 2, 4), 2), court_paper(T_HALL)[1]))), many_paper, T_HALL, 2)
        chance = random.Random(4)
        for hall in random_halls(chance, 200, 6, KINDS):
            many = len(ends_in(hall))
            self.assertEqual(most_robots(hall) == many - 1, first_barred(hall) is None and many > 0)

    def test_halls_by_chance(self):
        chance = random.Random(5)
        for hall in random_halls(chance, 500, 6, ("free", "park", "shelf")):
            ends = ends_in(hall)
            fits = [robots for robots in range(1, len(ends)) if is_open_for(hall, robots)]
            self.tells(max(fits, default=0), most_robots, hall)
            self.assertEqual(fits, list(range(1, len(fits) + 1)))
            for robots in range(1, len(ends)):
                self.check_paper(hall, robots, robots in fits)

    def check_paper(self, hall, robots, fits):
        paper = many_paper(hall, robots)
        self.assertTrue(is_tupled(paper) and is_many_paper(hall, robots, paper), (hall.kinds, hall.ways, robots, paper))
        self.holds_just_if(True, many_holds, hall, robots, paper)
        self.assertEqual(paper[0] == "open", fits)
        if fits:
            return
        pairs = [pair for pair in itertools.permutations(ends_in(hall), 2)
                 if fewest_bars(hall, *pair) is not None and fewest_bars(hall, *pair) < robots]
        self.assertEqual(paper[1:3], pairs[0])
        self.assertEqual(len(paper[3]), fewest_bars(hall, *pairs[0]))

    def test_just_one_of_both(self):
        chance = random.Random(6)
        for hall in random_halls(chance, 80, 4, ("free", "park", "shelf")):
            ends = ends_in(hall)
            for robots in range(1, len(ends)):
                values = [("barred", one, other, lot) for one in range(hall.cells) for other in range(hall.cells)
                          for lot in subsets(range(hall.cells))]
                held = [value for value in values if is_many_paper(hall, robots, value)]
                for value in values:
                    self.holds_just_if(value in held, many_holds, hall, robots, value)
                self.assertEqual(held == [], is_open_for(hall, robots))

    def test_papers_changed_a_little(self):
        chance = random.Random(7)
        halls = list(random_halls(chance, 50, 5, ("free", "park", "shelf"))) + [ROW, RING, T_HALL]
        for hall in halls:
            for robots in range(1, min(len(ends_in(hall)), 4)):
                for value in changed_a_little(many_paper(hall, robots)):
                    self.holds_just_if(is_many_paper(hall, robots, value), many_holds, hall, robots, value)

    def test_any_ways(self):
        hall = tied_hall("p.ph", [(0, 1), (1, 2), (0, 3), (3, 2), (1, 3)])
        legs = {(0, 2): (0, 1, 2), (0, 3): (0, 3), (2, 0): (2, 1, 0), (2, 3): (2, 3), (3, 0): (3, 0), (3, 2): (3, 2)}

        def paper(pair, ways):
            return ("open", tuple(other + (ways if other == pair else (leg,),) for other, leg in legs.items()))

        for ways, expected in ((((0, 1, 2), (0, 3, 2)), True), (((0, 1, 2), (0, 1, 2)), True), (((0, 1, 0, 1, 2),), False),
                               (((0, 1, 3, 1, 2),), False), (((0, 3, 2), (0, 3, 2)), False), (((0, 3, 2),), False),
                               (((0, 3, 1, 2), (0, 1, 2)), True), (((0, 3, 1, 3, 2), (0, 1, 2)), True), ((), False),
                               (((0, 1, 2), (0, 3, 2), (0, 1, 2)), False), (((0, 3, 2), (0, 1, 3, 2)), False),
                               (((0, 1, 2), (2, 3, 0)), False), ([(0, 1, 2)], False), (((0, 1, 2, 3, 2),), False)):
            self.assertEqual(is_many_paper(hall, 2, paper((0, 2), ways)), expected, ways)
            self.holds_just_if(expected, many_holds, hall, 2, paper((0, 2), ways))
        for ways, expected in ((((0, 3, 2),), True), (((0, 1, 3, 1, 2),), True), (((0, 1, 2), (0, 3, 2)), False)):
            self.holds_just_if(expected, many_holds, hall, 1, paper((0, 2), ways))
        for lot, robots, expected in (((2,), 2, True), ((2,), 1, False), ((), 2, False), ((2, 2), 3, False), ((0, 2), 3, False),
                                      ((1, 2), 3, False), ([2], 2, False)):
            value = ("barred", 0, 3, lot)
            if robots < 3:
                self.holds_just_if(expected, many_holds, ROW, robots, value)

    def test_larger_halls(self):
        hall = read_drawing("PPPP\nP..P\nPPPP")
        self.assertTrue(is_many_paper(hall, 2, many_paper(hall, 2)))
        self.assertEqual(most_robots(hall), min(most_robots_by_bars(hall), len(ends_in(hall)) - 1))


def most_robots_by_bars(hall):
    """The fewest other ends that bar some pair."""
    found = [fewest_bars(hall, *pair) for pair in itertools.permutations(ends_in(hall), 2)]
    return min([many for many in found if many is not None], default=10 ** 9)


if __name__ == "__main__":
    unittest.main()
