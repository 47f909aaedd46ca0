"""[7], [8]: what hangs together, what parts it, and which cells reach each other."""

import itertools
import random
import unittest

from nobodymeets.errors import InvalidCell, InvalidHall, Refused
from nobodymeets.halls import Hall, read_drawing
from nobodymeets.pieces import (all_pieces, parting_cells, parts_holds, parts_paper, reached_cells, strong_pieces,
                                together_holds, together_paper)
from tests.helpers import PromiseCase, changed_a_little, is_below, is_rising, is_tupled, odd_values, same


def free_hall(cells, ways):
    return Hall(("free",) * cells, ways)


def tied_hall(cells, ties, chance=None):
    """A hall with these ties; each by both ways or, by chance, by one."""
    ways = []
    for one, other in ties:
        both = [(one, other), (other, one)]
        ways.extend(both if chance is None else chance.choice((both, both[:1], both[1:])))
    return free_hall(cells, ways)


def small_halls(cells):
    """All halls of so many cells, told apart by their ties."""
    pairs = list(itertools.combinations(range(cells), 2))
    chance = random.Random(cells)
    for many in range(len(pairs) + 1):
        for ties in itertools.combinations(pairs, many):
            yield tied_hall(cells, ties, chance)


def some_halls(seed, many, most):
    chance = random.Random(seed)
    for _ in range(many):
        cells = chance.randint(1, most)
        pairs = list(itertools.combinations(range(cells), 2))
        ties = [pair for pair in pairs if chance.random() * cells < chance.choice((1, 2, 3))]
        yield tied_hall(cells, ties, chance)


def near(hall, one, other):
    return (one, other) in hall.ways or (other, one) in hall.ways


def rows_between(hall, one, other, ahead=()):
    """All rows of unlike tied cells from one to an other."""
    row = ahead + (one,)
    if one == other:
        yield row
        return
    for cell in range(hall.cells):
        if cell not in row and near(hall, one, cell):
            yield from rows_between(hall, cell, other, row)


def all_together(hall, one):
    return tuple(cell for cell in range(hall.cells) if any(True for _ in rows_between(hall, one, cell)))


def parting(hall, one, other):
    rows = list(rows_between(hall, one, other))
    return tuple(cell for cell in range(hall.cells) if cell not in (one, other) and rows
                 and all(cell in row for row in rows))


def is_plain_lot(hall, value):
    return isinstance(value, tuple) and all(is_below(cell, hall.cells) for cell in value) and is_rising(value)


def leaving(hall, lot):
    """The ties out of a lot: (cell in it, cell outside)."""
    return [(one, other) for one in lot for other in range(hall.cells) if other not in lot and near(hall, one, other)]


def is_plain_row(hall, value):
    if not isinstance(value, tuple) or not value or not all(is_below(cell, hall.cells) for cell in value):
        return False
    return len(set(value)) == len(value) and all(near(hall, *pair) for pair in zip(value, value[1:]))


def is_together_paper(hall, one, other, value):
    """[7]: straight from the document."""
    if not isinstance(value, tuple) or len(value) != 2:
        return False
    if same(value[0], "way"):
        return is_plain_row(hall, value[1]) and (value[1][0], value[1][-1]) == (one, other)
    if not same(value[0], "lot") or not is_plain_lot(hall, value[1]):
        return False
    return one in value[1] and other not in value[1] and leaving(hall, value[1]) == []


def is_parts_paper(hall, one, other, value):
    """[8]: straight from the document."""
    if one == other or not isinstance(value, tuple) or len(value) not in (2, 3) or not isinstance(value[0], str):
        return False
    if value[0] == "ring" and len(value) == 2:
        return (is_plain_row(hall, value[1]) and len(value[1]) >= 3 and near(hall, value[1][0], value[1][-1])
                and one in value[1] and other in value[1])
    if not is_plain_lot(hall, value[-1]) or one not in value[-1] or other in value[-1]:
        return False
    ties = leaving(hall, value[-1])
    if len(value) == 3:
        if value[0] != "cell" or not is_below(value[1], hall.cells) or value[1] in (one, other) + value[2]:
            return False
        return value[1] in parting(hall, one, other) and all(outside == value[1] for _, outside in ties)
    if value[0] == "tie":
        return ties == [(one, other)]
    return value[0] == "apart" and ties == []


def reached(hall, cell):
    found, left = {cell}, [cell]
    while left:
        one = left.pop()
        more = [other for way, other in hall.ways if way == one and other not in found]
        found.update(more)
        left.extend(more)
    return tuple(sorted(found))


class TogetherTest(PromiseCase):
    def test_one_cell(self):
        hall = free_hall(1, ())
        self.tells(("way", (0,)), together_paper, hall, 0, 0)
        self.tells(((0,),), all_pieces, hall)
        self.tells((), parting_cells, hall, 0, 0)
        self.tells((0,), reached_cells, hall, 0)
        self.tells(((0,),), strong_pieces, hall)
        self.told(Refused, -1, parts_paper, hall, 0, 0)

    def test_ways_one_way_count_as_ties(self):
        hall = read_drawing("P>H\n#.#\nS##")
        self.tells(("way", (2, 1, 0)), together_paper, hall, 2, 0)
        self.tells(("lot", (4,)), together_paper, hall, 4, 0)
        self.tells(("lot", (0, 1, 2, 3)), together_paper, hall, 0, 4)
        self.tells(((0, 1, 2, 3), (4,)), all_pieces, hall)

    def test_papers_of_small_halls(self):
        for hall in itertools.chain(small_halls(1), small_halls(2), small_halls(3), small_halls(4),
                                    some_halls(1, 60, 7)):
            lots = sorted({all_together(hall, cell) for cell in range(hall.cells)})
            self.tells(tuple(lots), all_pieces, hall)
            for one, other in itertools.product(range(hall.cells), repeat=2):
                self.check_paper(hall, one, other)

    def check_paper(self, hall, one, other):
        paper = together_paper(hall, one, other)
        rows = list(rows_between(hall, one, other))
        if rows:
            self.assertEqual(paper[0], "way")
            self.assertEqual(len(paper[1]), min(map(len, rows)))
            self.assertTrue(same(paper[1], tuple(paper[1])) and paper[1] in rows)
            for row in rows:
                self.holds_just_if(True, together_holds, hall, one, other, ("way", row))
        else:
            self.assertTrue(same(paper, ("lot", all_together(hall, one))))
        self.holds_just_if(True, together_holds, hall, one, other, paper)

    def test_always_one_of_both_papers_never_both(self):
        for hall in itertools.chain(small_halls(3), some_halls(2, 40, 5)):
            lots = [lot for many in range(hall.cells + 1) for lot in itertools.combinations(range(hall.cells), many)]
            rows = [row for many in range(hall.cells + 1) for row in itertools.permutations(range(hall.cells), many)]
            for one, other in itertools.product(range(hall.cells), repeat=2):
                held = set()
                for value in [("lot", lot) for lot in lots] + [("way", row) for row in rows]:
                    expected = is_together_paper(hall, one, other, value)
                    self.holds_just_if(expected, together_holds, hall, one, other, value)
                    if expected:
                        held.add(value[0])
                self.assertEqual(len(held), 1)

    def test_changed_papers(self):
        for hall in itertools.chain(small_halls(3), some_halls(3, 40, 7)):
            for one, other in itertools.product(range(hall.cells), repeat=2):
                for value in changed_a_little(together_paper(hall, one, other)):
                    self.holds_just_if(is_together_paper(hall, one, other, value), together_holds, hall, one, other,
                                       value)

    def test_rows_are_of_unlike_cells_and_lots_ascend(self):
        hall = read_drawing("...\n#.#")
        for value, expected in ((("way", (0, 1, 2)), True), (("way", (0, 1, 3, 1, 2)), False), (("way", (0, 2)), False),
                                (("way", (0, 1)), False), (("way", (1, 2)), False), (("way", ()), False),
                                (("way", [0, 1, 2]), False), (["way", (0, 1, 2)], False), (("way", (False, 1, 2)), False),
                                (("lot", (0, 1, 3)), False), (("lot", ()), False)):
            self.holds_just_if(expected, together_holds, hall, 0, 2, value)
        apart = read_drawing("..#.#.")
        for value, expected in ((("lot", (0, 1)), True), (("lot", (0, 1, 3)), True), (("lot", (1, 0)), False),
                                (("lot", (0,)), False), (("lot", (0, 1, 1)), False), (("lot", (0, 1, 2)), False),
                                (("lot", (0, 1, 2, 3)), False), (("lot", (2, 3)), False), (("lot", (3,)), False),
                                (("lot", [0, 1]), False), (("lot", (0, 1, 4)), False), (("lot", (False, 1)), False)):
            self.holds_just_if(expected, together_holds, apart, 0, 2, value)
        self.holds_just_if(False, together_holds, apart, 0, 0, ("lot", (0, 1)))
        self.holds_just_if(True, together_holds, apart, 0, 0, ("way", (0,)))

    def test_long_rows_and_many_cells(self):
        hall = tied_hall(400, [(cell, cell + 1) for cell in range(399)])
        self.tells(("way", tuple(range(399, -1, -1))), together_paper, hall, 399, 0)
        self.tells((tuple(range(400)),), all_pieces, hall)
        self.tells(tuple(range(400)), reached_cells, hall, 200)
        self.tells((tuple(range(400)),), strong_pieces, hall)


class PartsTest(PromiseCase):
    def test_the_four_kinds(self):
        hall = read_drawing("..#\n..P\n##.\n#S.")
        self.tells(("cell", 3, (0, 1, 2)), parts_paper, hall, 2, 6)
        self.tells((3, 4, 5, 7), parting_cells, hall, 2, 6)
        self.tells(("tie", (0, 1, 2, 3)), parts_paper, hall, 3, 4)
        self.tells(("tie", (4, 5, 6, 7)), parts_paper, hall, 4, 3)
        self.assertEqual(parts_paper(hall, 0, 3)[0], "ring")
        self.tells(("apart", (0,)), parts_paper, read_drawing(".#."), 0, 1)

    def test_cells_that_part_all_of_them(self):
        hall = read_drawing(".....")
        self.tells((1, 2, 3), parting_cells, hall, 0, 4)
        self.tells((1, 2, 3), parting_cells, hall, 4, 0)
        self.tells((), parting_cells, hall, 2, 3)
        self.tells((), parting_cells, hall, 2, 2)
        self.tells((), parting_cells, read_drawing("..#.."), 0, 3)
        self.tells(("cell", 1, (0,)), parts_paper, hall, 0, 4)
        self.tells(("cell", 1, (2, 3, 4)), parts_paper, hall, 4, 0)

    def test_a_tie_that_is_the_only_row(self):
        hall = tied_hall(2, [(0, 1)])
        self.tells(("tie", (0,)), parts_paper, hall, 0, 1)
        self.tells(("tie", (1,)), parts_paper, hall, 1, 0)
        one_way = free_hall(2, [(1, 0)])
        self.tells(("tie", (0,)), parts_paper, one_way, 0, 1)
        for value in (("tie", (1,)), ("tie", (0, 1)), ("tie", ()), ("apart", (0,)), ("ring", (0, 1)), ("cell", 1, (0,)),
                      ("cell", 0, (0,)), ("tie", (0,), ())):
            self.holds_just_if(False, parts_holds, hall, 0, 1, value)

    def test_a_tie_that_is_on_a_ring_of_three(self):
        hall = free_hall(3, [(0, 1), (1, 2), (2, 0)])
        for one, other in itertools.permutations(range(3), 2):
            paper = parts_paper(hall, one, other)
            self.assertEqual((paper[0], sorted(paper[1])), ("ring", [0, 1, 2]))
            for row in itertools.permutations(range(3)):
                self.holds_just_if(True, parts_holds, hall, one, other, ("ring", row))

    def test_papers_of_small_halls(self):
        for hall in itertools.chain(small_halls(2), small_halls(3), small_halls(4), some_halls(4, 80, 7)):
            for one, other in itertools.product(range(hall.cells), repeat=2):
                self.tells(parting(hall, one, other), parting_cells, hall, one, other)
                if one == other:
                    self.told(Refused, -1, parts_paper, hall, one, other)
                else:
                    self.check_paper(hall, one, other)

    def check_paper(self, hall, one, other):
        paper = parts_paper(hall, one, other)
        self.assertTrue(is_tupled(paper) and is_parts_paper(hall, one, other, paper), (hall.ways, one, other, paper))
        self.holds_just_if(True, parts_holds, hall, one, other, paper)
        rows = list(rows_between(hall, one, other))
        cells = parting(hall, one, other)
        if not rows:
            self.assertTrue(same(paper, ("apart", all_together(hall, one))))
        elif cells:
            left = free_hall(hall.cells, [way for way in hall.ways if cells[0] not in way])
            self.assertTrue(same(paper, ("cell", cells[0], all_together(left, one))))
        elif rows == [(one, other)]:
            left = free_hall(hall.cells, [way for way in hall.ways if set(way) != {one, other}])
            self.assertTrue(same(paper, ("tie", all_together(left, one))))
        else:
            self.assertEqual(paper[0], "ring")

    def test_always_just_one_of_the_four_kinds(self):
        for hall in itertools.chain(small_halls(3), some_halls(5, 25, 5)):
            cells = range(hall.cells)
            lots = [lot for many in range(hall.cells + 1) for lot in itertools.combinations(cells, many)]
            values = [(word, lot) for word in ("apart", "tie") for lot in lots]
            values.extend([("cell", cell, lot) for cell in cells for lot in lots])
            values.extend([("ring", row) for many in range(hall.cells + 1) for row in itertools.permutations(cells, many)])
            for one, other in itertools.product(cells, repeat=2):
                held = set()
                for value in values:
                    expected = is_parts_paper(hall, one, other, value)
                    self.holds_just_if(expected, parts_holds, hall, one, other, value)
                    if expected:
                        held.add(value[0])
                self.assertEqual(len(held), 0 if one == other else 1)

    def test_changed_papers(self):
        for hall in itertools.chain(small_halls(3), some_halls(6, 40, 7)):
            for one, other in itertools.permutations(range(hall.cells), 2):
                for value in changed_a_little(parts_paper(hall, one, other)):
                    self.holds_just_if(is_parts_paper(hall, one, other, value), parts_holds, hall, one, other, value)

    def test_whichever_cell_and_lot(self):
        hall = read_drawing("....\n##.#")
        for value, expected in ((("cell", 1, (0,)), True), (("cell", 2, (0, 1)), True), (("cell", 2, (0, 1, 4)), True),
                                (("cell", 2, (0, 4)), False), (("cell", 4, (0, 1, 2)), False), (("cell", 2, (0,)), False),
                                (("cell", 2, (0, 1, 2)), False), (("cell", 2, (0, 1, 3)), False), (("cell", 0, (1,)), False),
                                (("cell", 3, (0, 1, 2, 4)), False), (("cell", True, (0,)), False),
                                (("cell", 2, (1, 0)), False), (("cell", 2, [0, 1]), False), (("cell", (2,), (0, 1)), False),
                                (("cell", -1, (0, 1)), False), (("cell", 5, (0, 1)), False)):
            self.holds_just_if(expected, parts_holds, hall, 0, 3, value)

    def test_where_cells_do_not_hang_together_no_cell_parts_them(self):
        hall = read_drawing("...#.")
        for value, expected in ((("cell", 1, (0,)), False), (("cell", 2, (0, 1)), False), (("apart", (0, 1, 2)), True),
                                (("tie", (0, 1, 2)), False), (("ring", (0, 1, 2)), False)):
            self.holds_just_if(expected, parts_holds, hall, 0, 3, value)

    def test_of_alike_cells_none_is(self):
        hall = read_drawing("..\n..")
        for value in (("ring", (0, 1, 3, 2)), ("apart", (0,)), ("tie", (0,)), ("cell", 1, (0,)), ("cell", 1, (0, 2, 3))):
            self.holds_just_if(False, parts_holds, hall, 0, 0, value)

    def test_rings_in_larger_halls(self):
        grid = read_drawing("....\n.#..\n....")
        for one, other in itertools.permutations(range(grid.cells), 2):
            paper = parts_paper(grid, one, other)
            self.assertEqual(paper[0], "ring")
            self.assertTrue(is_parts_paper(grid, one, other, paper))
            self.holds_just_if(True, parts_holds, grid, one, other, paper)
        # The shortest row from 0 to 5 must be left for both to be put in.
        crossed = tied_hall(6, [(0, 1), (1, 2), (2, 5), (0, 3), (3, 2), (1, 4), (4, 5)])
        paper = parts_paper(crossed, 0, 5)
        self.assertEqual((paper[0], sorted(paper[1])), ("ring", [0, 1, 2, 3, 4, 5]))

    def test_the_order_of_errors(self):
        self.told(InvalidHall, -1, parts_paper, None, 9, 9)
        self.told(InvalidCell, 0, parts_paper, read_drawing(".."), 2, 2)
        self.told(InvalidCell, 1, parts_paper, read_drawing(".."), 1, True)
        self.told(Refused, -1, parts_paper, read_drawing(".."), 1, 1)


class ReachedTest(PromiseCase):
    def test_cells_that_only_one_way_leads_to(self):
        hall = read_drawing("P>H")
        self.tells((0, 1, 2), reached_cells, hall, 0)
        self.tells((1, 2), reached_cells, hall, 2)
        self.tells(((0,), (1, 2)), strong_pieces, hall)
        self.tells(((1,), (0,)), strong_pieces, free_hall(2, [(1, 0)]))

    def test_the_first_lot_that_no_other_one_left_reaches(self):
        self.tells(((1,), (0,), (2,)), strong_pieces, free_hall(3, [(1, 0)]))
        self.tells(((0,), (2,), (1,)), strong_pieces, free_hall(3, [(2, 1)]))
        self.tells(((3,), (0, 2), (1,)), strong_pieces, free_hall(4, [(0, 2), (2, 0), (3, 2), (2, 1)]))
        self.tells(((2,), (1, 3), (0,)), strong_pieces, free_hall(4, [(1, 3), (3, 1), (3, 0), (2, 1)]))
        self.tells(((0,), (1,), (2,)), strong_pieces, free_hall(3, ()))

    def test_other_halls(self):
        chance = random.Random(7)
        for _ in range(400):
            cells = chance.randint(1, 6)
            ways = [way for way in itertools.permutations(range(cells), 2) if chance.random() < chance.choice((0.1, 0.3))]
            hall = free_hall(cells, ways)
            for cell in range(cells):
                self.tells(reached(hall, cell), reached_cells, hall, cell)
            self.tells(self.plain_strong(hall), strong_pieces, hall)

    def plain_strong(self, hall):
        cells = range(hall.cells)
        lots = {tuple(other for other in cells if other in reached(hall, cell) and cell in reached(hall, other))
                for cell in cells}
        order = []
        while lots:
            free = [lot for lot in lots if not any(lot[0] in reached(hall, other[0]) for other in lots - {lot})]
            order.append(min(free))
            lots.remove(min(free))
        return tuple(order)

    def test_wrong_cells(self):
        for value in odd_values() + [2, True]:
            if not is_below(value, 2):
                self.told(InvalidCell, -1, reached_cells, read_drawing(".."), value)


if __name__ == "__main__":
    unittest.main()
