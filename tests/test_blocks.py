"""[9]: blocks of ties, and how they change by a tie."""

import itertools
import random
import unittest

from nobodymeets.blocks import (block_tree, blocks_between, joined_blocks, plain_blocks, split_blocks, tie_blocks)
from nobodymeets.errors import InvalidBlocks, InvalidHall, Refused
from nobodymeets.halls import Hall, put_way, read_drawing, take_way
from nobodymeets.pieces import parting_cells
from tests.hall_worlds import free_hall, tied_hall
from tests.helpers import PromiseCase, changed_a_little, is_int, listed, odd_values, tupled

# Two rings of three with a cell in common, a tie to a lone end, and a tie apart.
BUTTERFLY = (((0, 1), (0, 2), (1, 2)), ((2, 3), (2, 4), (3, 4)), ((4, 5),), ((7, 9),))


def hall_of(ties, cells=10):
    return tied_hall("." * cells, ties)


def rings(ties):
    """All rings of ties, each as a set of ties."""
    found = set()

    def go_on(row):
        for tie in ties:
            if row[-1] in tie:
                other = tie[0] + tie[1] - row[-1]
                if other == row[0] and len(row) > 2:
                    found.add(frozenset(tuple(sorted(pair)) for pair in zip(row, row[1:] + row[:1])))
                elif other not in row and other > row[0]:
                    go_on(row + [other])

    for cell in {cell for tie in ties for cell in tie}:
        go_on([cell])
    return found


def all_blocks(ties):
    """[9]: greatest lots of ties of which each two are on one ring, straight from the document."""
    around = rings(ties)
    lots = {tuple(sorted({tie} | {other for ring in around if tie in ring for other in ring})) for tie in ties}
    for lot in lots:
        for one, other in itertools.combinations(lot, 2):
            assert any(one in ring and other in ring for ring in around)
    return tuple(sorted(lots))


def small_ties(cells):
    pairs = list(itertools.combinations(range(cells), 2))
    for many in range(len(pairs) + 1):
        yield from itertools.combinations(pairs, many)


def some_ties(seed, many, most):
    chance = random.Random(seed)
    for _ in range(many):
        cells = chance.randint(2, most)
        share = chance.choice((0.2, 0.35, 0.5))
        ties = [pair for pair in itertools.combinations(range(cells), 2) if chance.random() < share]
        yield tuple(sorted(chance.sample(ties, min(len(ties), 11))))


def rows_between(ties, one, other, ahead=()):
    row = ahead + (one,)
    if one == other:
        yield row
        return
    for tie in ties:
        if one in tie and tie[0] + tie[1] - one not in row:
            yield from rows_between(ties, tie[0] + tie[1] - one, other, row)


def between(blocks, one, other):
    """What each row between two cells goes along; all must tell the same."""
    ties = [tie for block in blocks for tie in block]
    told = set()
    for row in rows_between(ties, one, other):
        along = [tuple(sorted(pair)) for pair in zip(row, row[1:])]
        told.add(tuple(number for number, block in enumerate(blocks) if set(along) & set(block)))
    assert len(told) <= 1
    return told.pop() if told else None


class BlockTest(PromiseCase):
    def test_halls_with_few_ties(self):
        for hall, blocks in ((free_hall(1, ()), ()), (free_hall(3, ()), ()), (free_hall(2, [(1, 0)]), (((0, 1),),)),
                             (free_hall(3, [(2, 0), (0, 1)]), (((0, 1),), ((0, 2),))),
                             (free_hall(3, [(0, 1), (1, 2), (2, 0)]), (((0, 1), (0, 2), (1, 2)),)),
                             (hall_of([tie for block in BUTTERFLY for tie in block]), BUTTERFLY)):
            self.tells(blocks, tie_blocks, hall)
            self.tells(blocks, plain_blocks, hall)

    def test_ties_count_not_ways_or_kinds(self):
        hall = Hall(("park", "shelf", "free", "station"), [(0, 1), (2, 1), (2, 0), (3, 2), (2, 3)])
        for call in (tie_blocks, plain_blocks):
            self.tells((((0, 1), (0, 2), (1, 2)), ((2, 3),)), call, hall)

    def test_small_halls(self):
        for ties in itertools.chain(small_ties(2), small_ties(3), small_ties(4), some_ties(1, 250, 8)):
            expected = all_blocks(ties)
            hall = hall_of(ties, 8)
            self.tells(expected, tie_blocks, hall)
            self.tells(expected, plain_blocks, hall)

    def test_large_halls(self):
        grid = read_drawing("\n".join(["." * 20] * 20))
        self.assertEqual(tie_blocks(grid), plain_blocks(grid))
        self.assertEqual(len(tie_blocks(grid)), 1)
        row = read_drawing("." * 400)
        self.tells(tuple([((cell, cell + 1),) for cell in range(399)]), tie_blocks, row)
        ring = hall_of([(cell, cell + 1) for cell in range(399)] + [(0, 399)], 400)
        self.assertEqual([len(block) for block in tie_blocks(ring)], [400])
        self.tells(tie_blocks(ring), plain_blocks, ring)

    def test_trees(self):
        self.tells(((2, 4), ((0, 2), (1, 2), (1, 4), (2, 4))), block_tree, BUTTERFLY)
        self.tells(((2, 4), ((0, 2), (1, 2), (1, 4), (2, 4))), block_tree, listed(BUTTERFLY[::-1]))
        self.tells(((), ()), block_tree, ())
        self.tells(((), ()), block_tree, [[[3, 5]]])
        for ties in some_ties(2, 150, 8):
            blocks = all_blocks(ties)
            cells = [cell for cell in range(8) if sum(any(cell in tie for tie in block) for block in blocks) > 1]
            pairs = [(number, cell) for number, block in enumerate(blocks) for cell in cells
                     if any(cell in tie for tie in block)]
            self.tells((tuple(cells), tuple(pairs)), block_tree, blocks)
            self.check_forest(blocks, cells, pairs)

    def check_forest(self, blocks, cells, pairs):
        for one, other in itertools.combinations(blocks, 2):
            self.assertEqual(set(one) & set(other), set())
            shared = {cell for tie in one for cell in tie} & {cell for tie in other for cell in tie}
            self.assertLessEqual(len(shared), 1)
        # In a forest each pair hangs two things together that did not hang together ahead.
        lots = {name: {name} for name in [("block", at) for at in range(len(blocks))] + [("cell", at) for at in cells]}
        for number, cell in pairs:
            one, other = lots[("block", number)], lots[("cell", cell)]
            self.assertFalse(one & other)
            for name in one | other:
                lots[name] = one | other

    def test_blocks_between(self):
        for one, other, numbers in ((0, 5, (0, 1, 2)), (5, 0, (0, 1, 2)), (0, 1, (0,)), (0, 2, (0,)), (2, 4, (1,)),
                                    (5, 2, (1, 2)), (7, 9, (3,)), (0, 7, None), (0, 6, None), (6, 8, None),
                                    (10 ** 9, 0, None), (1, 10 ** 9, None)):
            for blocks in (BUTTERFLY, BUTTERFLY[::-1], listed(BUTTERFLY)):
                self.tells(numbers, blocks_between, blocks, one, other)
        self.tells(None, blocks_between, (), 0, 1)
        for ties in some_ties(3, 120, 7):
            blocks = all_blocks(ties)
            for one, other in itertools.permutations(range(7), 2):
                self.tells(between(blocks, one, other), blocks_between, blocks, one, other)

    def test_what_parts_two_cells_lies_between_them(self):
        for ties in some_ties(4, 60, 7):
            blocks, hall = all_blocks(ties), hall_of(ties, 7)
            shared, pairs = block_tree(blocks)
            for one, other in itertools.permutations(range(7), 2):
                numbers = blocks_between(blocks, one, other)
                lying = [cell for cell in shared if cell not in (one, other) and numbers is not None
                         and len([number for number in numbers if (number, cell) in pairs]) == 2]
                self.tells(tuple(lying), parting_cells, hall, one, other)

    def test_a_tie_more(self):
        self.tells((((0, 1),),), joined_blocks, (), 1, 0)
        self.tells((((0, 1), (0, 2), (1, 2)), ((2, 3), (2, 4), (3, 4)), ((4, 5),), ((5, 7),), ((7, 9),)), joined_blocks,
                   BUTTERFLY, 7, 5)
        self.tells((((0, 1), (0, 2), (0, 5), (1, 2), (2, 3), (2, 4), (3, 4), (4, 5)), ((7, 9),)), joined_blocks,
                   BUTTERFLY[::-1], 5, 0)
        self.tells((((0, 1), (0, 2), (1, 2)), ((2, 3), (2, 4), (2, 5), (3, 4), (4, 5)), ((7, 9),)), joined_blocks,
                   BUTTERFLY, 2, 5)
        for one, other in ((0, 1), (1, 0), (4, 5), (9, 7), (3, 3), (0, 0)):
            self.told(Refused, -1, joined_blocks, BUTTERFLY, one, other)

    def test_a_tie_less(self):
        self.tells((), split_blocks, (((0, 1),),), 1, 0)
        self.tells((((0, 1),), ((1, 2),), ((2, 3), (2, 4), (3, 4)), ((4, 5),), ((7, 9),)), split_blocks, BUTTERFLY, 0, 2)
        self.tells(BUTTERFLY[:3], split_blocks, BUTTERFLY[::-1], 9, 7)
        self.tells(BUTTERFLY[:2] + BUTTERFLY[3:], split_blocks, listed(BUTTERFLY), 4, 5)
        for one, other in ((0, 3), (5, 7), (3, 3), (0, 9), (6, 7)):
            self.told(Refused, -1, split_blocks, BUTTERFLY, one, other)

    def test_ties_more_and_less_by_chance(self):
        for ties in some_ties(5, 120, 7):
            blocks = all_blocks(ties)
            for one, other in itertools.combinations(range(7), 2):
                if (one, other) in ties:
                    left = [tie for tie in ties if tie != (one, other)]
                    self.tells(all_blocks(left), split_blocks, blocks, other, one)
                    self.told(Refused, -1, joined_blocks, blocks, one, other)
                elif len(ties) < 11:
                    self.tells(all_blocks(ties + ((one, other),)), joined_blocks, blocks, one, other)
                    self.told(Refused, -1, split_blocks, blocks, one, other)

    def test_blocks_follow_a_hall(self):
        chance = random.Random(6)
        hall = hall_of((), 9)
        blocks = ()
        for _ in range(120):
            one, other = chance.sample(range(9), 2)
            if other in hall.near_cells(one):
                hall = take_way(take_way(hall, one, other), other, one)
                blocks = split_blocks(blocks, one, other)
            else:
                hall = put_way(put_way(hall, one, other), other, one)
                blocks = joined_blocks(blocks, one, other)
            self.tells(blocks, tie_blocks, hall)
            self.tells(blocks, plain_blocks, hall)


class WrongBlocksTest(PromiseCase):
    CALLS = ((block_tree, ()), (blocks_between, (0, 9)), (joined_blocks, (0, 9)), (split_blocks, (0, 1)))

    def test_wrong_blocks(self):
        wrong = [
            ((),), BUTTERFLY + ((),), (((0, 1), (0, 2)),), (((0, 1),), ((0, 2),), ((1, 2),)), BUTTERFLY + BUTTERFLY[:1],
            (((0, 1), (2, 3)),), (((0, 1),), ((0, 1),)), (((1, 0),),), (((1, 1),),), (((0, 1, 2),),), (((0,),),),
            (((0, True),),), (((-1, 0),),), (((0, "1"),),), (((0, None),),), (((None, 0),),), ((("0", 1),),), (((False, 1),),),
            ((((), 1),),), ((0, 1),), ("01",), (((0, 1), (0, 1)),),
            (((0, 2), (0, 1), (1, 2)),), (((0, 1), (0, 2), (1, 2), (2, 3), (2, 4), (3, 4)),), 0, None, True, "",
            {((0, 1),): 0}, {},
        ]
        for blocks in wrong + [value for value in odd_values() if value not in ((), [])]:
            for call, more in self.CALLS:
                self.told(InvalidBlocks, -1, call, blocks, *more)
                self.told(InvalidBlocks, -1, call, blocks, *[None for _ in more])

    def test_blocks_changed_a_little(self):
        for value in changed_a_little(BUTTERFLY):
            if self.are_blocks(value):
                block_tree(value)
            else:
                self.told(InvalidBlocks, -1, block_tree, value)

    def are_blocks(self, value):
        if not isinstance(value, (list, tuple)):
            return False
        for block in value:
            if not isinstance(block, (list, tuple)):
                return False
            for tie in block:
                if not isinstance(tie, (list, tuple)) or len(tie) != 2 or not all(is_int(cell) for cell in tie):
                    return False
                if not 0 <= tie[0] < tie[1]:
                    return False
        blocks = tupled(value)
        ties = [tie for block in blocks for tie in block]
        return tuple(sorted(blocks)) == all_blocks(tuple(ties)) and len(set(ties)) == len(ties)

    def test_no_unlike_numbers(self):
        for call in (blocks_between, joined_blocks, split_blocks):
            for value in [value for value in odd_values() if not is_int(value) or value < 0] + [-5]:
                self.told(Refused, -1, call, BUTTERFLY, value, 0)
                self.told(Refused, -1, call, BUTTERFLY, 0, value)
            self.told(Refused, -1, call, BUTTERFLY, 6, 6)

    def test_wrong_halls(self):
        for call in (tie_blocks, plain_blocks):
            for value in (None, (), BUTTERFLY, "..", 3):
                self.told(InvalidHall, -1, call, value)


if __name__ == "__main__":
    unittest.main()
