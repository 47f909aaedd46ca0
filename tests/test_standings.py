"""[20], [21]: standings that can be turned into one another."""

import itertools
import random
import unittest

from nobodymeets.errors import InvalidHall, InvalidStanding, Refused
from nobodymeets.halls import Hall, read_drawing
from nobodymeets.standings import home_tree, standing_count, standing_holds, standing_paper, turned_count
from tests.helpers import PromiseCase, changed_a_little, is_int, is_rising, is_tupled, listed


def tied_hall(cells, ties, kind="free"):
    return Hall((kind,) * cells, [way for one, other in ties for way in ((one, other), (other, one))])


def row_hall(cells):
    return tied_hall(cells, [(cell, cell + 1) for cell in range(cells - 1)])


def ring_hall(cells):
    return tied_hall(cells, [(cell, (cell + 1) % cells) for cell in range(cells)])


def some_halls(seed, many, most):
    chance = random.Random(seed)
    for _ in range(many):
        cells = chance.randint(1, most)
        share = chance.choice((0.3, 0.5, 0.8))
        yield tied_hall(cells, [pair for pair in itertools.combinations(range(cells), 2) if chance.random() < share])


def some_standing(chance, hall, robots):
    names = sorted(chance.sample(range(9), robots))
    return tuple(zip(names, chance.sample(range(hall.cells), robots)))


def again(chance, hall, standing):
    """A standing of the same robots in other cells."""
    return tuple(zip([robot for robot, _ in standing], chance.sample(range(hall.cells), len(standing))))


def cells_of(standing):
    return tuple(sorted(cell for _, cell in standing))


def moves_of(hall, standing):
    taken = cells_of(standing)
    return [(robot, other) for robot, cell in standing for one, other in hall.ways if one == cell and other not in taken]


def moved(standing, move):
    return tuple((robot, move[1] if robot == move[0] else cell) for robot, cell in standing)


def all_that_come(hall, standing):
    """All standings that come of one, by trying each move of each."""
    found, left = {standing}, [standing]
    while left:
        one = left.pop()
        for move in moves_of(hall, one):
            after = moved(one, move)
            if after not in found:
                found.add(after)
                left.append(after)
    return found


def plain_tree(hall, standing):
    """[20]: the tree of lots, straight from the document."""
    rows = [(cells_of(standing), None, None, None)]
    for number, row in enumerate(rows):
        for one, other in hall.ways:
            if one in row[0] and other not in row[0]:
                lot = tuple(sorted(set(row[0]) - {one} | {other}))
                if lot not in [known[0] for known in rows]:
                    rows.append((lot, one, other, number))
    return tuple(rows)


def steps_to(tree, number):
    steps = []
    while tree[number][3] is not None:
        steps.insert(0, tree[number][1:3])
        number = tree[number][3]
    return steps


def after_steps(standing, steps):
    for one, other in steps:
        standing = tuple((robot, other if cell == one else cell) for robot, cell in standing)
    return standing


def turned_about(steps):
    return [(other, one) for one, other in reversed(steps)]


def places_of(standing, home):
    """The place among them of who, in standing, stands where each stood in home."""
    cells = [cell for _, cell in standing]
    return tuple(cells.index(cell) for _, cell in home)


def all_walks(hall, standing):
    """The permutations of all closed walks, told move by move."""
    tree = plain_tree(hall, standing)
    numbers = {row[0]: number for number, row in enumerate(tree)}
    found = set()
    for number, row in enumerate(tree):
        for one, other in hall.ways:
            if one in row[0] and other not in row[0]:
                after = numbers[tuple(sorted(set(row[0]) - {one} | {other}))]
                steps = steps_to(tree, number) + [(one, other)] + turned_about(steps_to(tree, after))
                found.add(places_of(after_steps(standing, steps), standing))
    return found


def plain_difference(hall, one, other):
    """The permutation that leads one's robots to where other's are, led home by the tree; None: no such cells."""
    tree = plain_tree(hall, one)
    for number, row in enumerate(tree):
        if row[0] == cells_of(other):
            return places_of(after_steps(other, turned_about(steps_to(tree, number))), one)
    return None


def behind(turn, walk):
    """What comes of a permutation by a walk behind it."""
    return tuple(turn[place] for place in walk)


def made_of(walks, many):
    found, left = {tuple(range(many))}, [tuple(range(many))]
    while left:
        turn = left.pop()
        for walk in walks:
            after = behind(turn, walk)
            if after not in found:
                found.add(after)
                left.append(after)
    return found


def is_paper(hall, one, other, value):
    """[20]: whether a value is a paper, straight from the document."""
    if not isinstance(value, tuple) or len(value) not in (1, 2) or not isinstance(value[0], str):
        return False
    difference = plain_difference(hall, one, other)
    if len(value) == 1:
        return value[0] == "lots" and difference is None
    if value[0] == "moves":
        return do_moves_lead(hall, one, other, value[1])
    if value[0] != "barred" or difference is None or not isinstance(value[1], tuple):
        return False
    places = list(range(len(one)))
    for turn in value[1]:
        if not isinstance(turn, tuple) or not all(is_int(place) for place in turn) or sorted(turn) != places:
            return False
    if not is_rising(value[1]) or tuple(places) not in value[1] or difference in value[1]:
        return False
    return all(behind(turn, walk) in value[1] for turn in value[1] for walk in all_walks(hall, one))


def do_moves_lead(hall, one, other, value):
    if not isinstance(value, tuple):
        return False
    for move in value:
        if not isinstance(move, tuple) or len(move) != 2 or not all(is_int(number) for number in move):
            return False
        if move not in moves_of(hall, one):
            return False
        one = moved(one, move)
    return one == other


class TreeTest(PromiseCase):
    def test_rows_as_found(self):
        hall = row_hall(4)
        self.tells((((0, 2), None, None, None), ((1, 2), 0, 1, 0), ((0, 1), 2, 1, 0), ((0, 3), 2, 3, 0),
                    ((1, 3), 2, 3, 1), ((2, 3), 1, 2, 4)), home_tree, hall, ((5, 2), (7, 0)))

    def test_without_a_robot_and_with_all_cells_taken(self):
        self.tells((((), None, None, None),), home_tree, row_hall(3), ())
        self.tells((((0, 1, 2), None, None, None),), home_tree, row_hall(3), ((0, 2), (1, 0), (2, 1)))

    def test_other_halls(self):
        chance = random.Random(1)
        for hall in some_halls(2, 150, 6):
            standing = some_standing(chance, hall, chance.randint(0, hall.cells))
            self.tells(plain_tree(hall, standing), home_tree, hall, standing)

    def test_any_number_of_robots_up_to_800_lots(self):
        standing = tuple((robot, robot) for robot in range(7))
        self.assertEqual(len(home_tree(row_hall(12), standing)), 792)
        self.told(Refused, "lots", home_tree, row_hall(12), standing[:6])
        self.assertEqual(len(home_tree(row_hall(12), tuple((cell, cell) for cell in range(12)))), 1)

    def test_just_800_lots_and_one_more(self):
        for first, second, many in ((20, 40, 800), (32, 25, 800), (3, 267, None), (9, 89, None)):
            ties = [(cell, cell + 1) for cell in range(first + second - 1) if cell != first - 1]
            hall = tied_hall(first + second, ties)
            standing = ((0, 0), (1, first))
            if many is None:
                self.told(Refused, "lots", home_tree, hall, standing)
                self.told(Refused, "lots", turned_count, hall, standing)
                self.told(Refused, "lots", standing_count, hall, standing)
                self.told(Refused, "lots", standing_paper, hall, standing, standing)
                self.told(Refused, "lots", standing_holds, hall, standing, standing, ("moves", ()))
            else:
                self.assertEqual(len(home_tree(hall, standing)), many)
                self.tells(1, turned_count, hall, standing)
                self.tells(many, standing_count, hall, standing)
                self.tells(("moves", ()), standing_paper, hall, standing, standing)


class PaperTest(PromiseCase):
    def check_paper(self, hall, one, other):
        come = all_that_come(hall, one)
        paper = standing_paper(hall, one, other)
        self.assertTrue(is_tupled(paper))
        if other in come:
            self.assertEqual(paper[0], "moves")
            self.assertTrue(do_moves_lead(hall, one, other, paper[1]), (hall.ways, one, other, paper))
        elif cells_of(other) not in [cells_of(standing) for standing in come]:
            self.assertEqual(paper, ("lots",))
        else:
            turns = {places_of(standing, one) for standing in come if cells_of(standing) == cells_of(one)}
            self.assertEqual(paper, ("barred", tuple(sorted(turns))))
        self.holds_just_if(True, standing_holds, hall, one, other, paper)
        self.holds_just_if(paper == ("lots",), standing_holds, hall, one, other, ("lots",))

    def test_all_standings_of_small_halls(self):
        for hall in itertools.chain(some_halls(3, 15, 4), [row_hall(3), ring_hall(3), ring_hall(4), row_hall(4)]):
            for robots in range(hall.cells + 1):
                names = tuple(range(2, 2 + robots))
                standings = [tuple(zip(names, cells)) for cells in itertools.permutations(range(hall.cells), robots)]
                for other in standings:
                    self.check_paper(hall, standings[0], other)
                    self.check_paper(hall, other, standings[-1])

    def test_other_halls(self):
        chance = random.Random(4)
        for hall in some_halls(5, 150, 6):
            one = some_standing(chance, hall, chance.randint(0, min(5, hall.cells)))
            self.check_paper(hall, one, again(chance, hall, one))
            come = sorted(all_that_come(hall, one))
            self.check_paper(hall, one, chance.choice(come))
            same_cells = [cells for cells in itertools.permutations(cells_of(one))]
            self.check_paper(hall, one, tuple(zip([robot for robot, _ in one], chance.choice(same_cells))))

    def test_large_halls(self):
        chance = random.Random(6)
        for drawing, robots in (("......\n......", 5), ("....\n....\n....", 5), (".....\n.#.#.\n.....", 4), ("......\n#.#.##", 4),
                                ("......", 5), ("......", 6)):
            hall = read_drawing(drawing)
            for _ in range(4):
                one = some_standing(chance, hall, robots)
                other = again(chance, hall, one)
                paper = standing_paper(hall, one, other)
                if paper[0] == "moves":
                    self.assertTrue(do_moves_lead(hall, one, other, paper[1]))
                self.holds_just_if(True, standing_holds, hall, one, other, paper)

    def test_without_a_robot_and_with_all_cells_taken(self):
        hall = row_hall(3)
        self.tells(("moves", ()), standing_paper, hall, (), ())
        self.tells(1, turned_count, hall, ())
        self.tells(1, standing_count, hall, [])
        self.holds_just_if(True, standing_holds, hall, (), (), ("moves", ()))
        for value in (("lots",), ("barred", ((),)), ("barred", ()), ("moves", ((0, 0),))):
            self.holds_just_if(False, standing_holds, hall, (), (), value)
        full = ((0, 0), (1, 1), (2, 2))
        self.tells(("moves", ()), standing_paper, hall, full, full)
        self.tells(("barred", ((0, 1, 2),)), standing_paper, hall, full, ((0, 1), (1, 0), (2, 2)))
        self.tells(1, standing_count, hall, full)

    def test_any_lot_of_permutations_that_bars(self):
        for hall, one, others in (
                (row_hall(4), ((0, 0), (1, 1), (2, 3)), itertools.permutations((0, 2, 3))),
                (ring_hall(4), ((3, 0), (4, 1), (8, 2)), itertools.permutations((1, 2, 3))),
                (row_hall(3), ((0, 0), (1, 1), (2, 2)), [(1, 0, 2), (0, 2, 1), (1, 2, 0)])):
            turns = list(itertools.permutations(range(3)))
            lots = [lot for many in range(7) for lot in itertools.combinations(turns, many)]
            for cells in others:
                other = tuple((robot, cell) for (robot, _), cell in zip(one, cells))
                held = 0
                for lot in lots:
                    expected = is_paper(hall, one, other, ("barred", lot))
                    self.holds_just_if(expected, standing_holds, hall, one, other, ("barred", lot))
                    held += expected
                self.assertEqual(held > 0, standing_paper(hall, one, other)[0] == "barred")

    def test_changed_papers(self):
        chance = random.Random(8)
        for hall in itertools.chain(some_halls(9, 30, 4), [row_hall(4), ring_hall(4)]):
            one = some_standing(chance, hall, chance.randint(0, min(3, hall.cells)))
            for other in (again(chance, hall, one), again(chance, hall, one), one):
                for value in changed_a_little(standing_paper(hall, one, other)):
                    self.holds_just_if(is_paper(hall, one, other, value), standing_holds, hall, one, other, value)

    def test_cells_that_are_taken_in_no_standing_that_comes(self):
        hall = tied_hall(4, [(0, 1), (2, 3)])
        one, other = ((0, 0), (1, 2)), ((0, 0), (1, 1))
        self.tells(("lots",), standing_paper, hall, one, other)
        for value in (("barred", ((0, 1),)), ("barred", ()), ("barred", ((0, 1), (1, 0))), ("moves", ()),
                      ("moves", ((1, 1),)), ("lots", ()), ("lots", None), (("lots",),), "lots", ["lots"]):
            self.holds_just_if(False, standing_holds, hall, one, other, value)
        self.tells(("barred", ((0, 1),)), standing_paper, hall, one, ((0, 3), (1, 1)))

    def test_any_row_of_moves(self):
        hall = ring_hall(4)
        one, other = ((1, 0), (2, 1)), ((1, 3), (2, 1))
        for row, expected in ((((1, 3),), True), (((2, 2), (2, 1), (1, 3)), True), (((2, 2), (1, 1), (1, 0), (2, 1)), False),
                              (((1, 2),), False), (((1, 1), (1, 3)), False), (((0, 3),), False), (([1, 3],), False),
                              ([(1, 3)], False), (((True, 3),), False), (((1, 3, 0),), False), (((1, 4),), False),
                              (((1, 3), (1, 3)), False), (((3, 3),), False), (((-1, 3),), False), ((), False),
                              (((1, -1),), False), (((), ()), False), (((1, 3), None), False)):
            self.holds_just_if(expected, standing_holds, hall, one, other, ("moves", row))

    def test_moves_by_robots_numbers(self):
        hall = row_hall(3)
        self.tells(("moves", ((9, 2), (4, 1))), standing_paper, hall, ((4, 0), (9, 1)), ((4, 1), (9, 2)))

    def test_lists(self):
        hall = ring_hall(4)
        one, other = ((1, 0), (2, 1), (5, 2)), ((1, 1), (2, 0), (5, 2))
        paper = standing_paper(hall, listed(one), listed(other))
        self.tells(paper, standing_paper, hall, one, other)
        self.assertEqual(paper[0], "barred")
        self.holds_just_if(False, standing_holds, hall, one, other, listed(paper))
        self.holds_just_if(False, standing_holds, hall, one, other, ("barred", list(paper[1])))
        self.holds_just_if(False, standing_holds, hall, one, other, ("barred", tuple(listed(paper[1]))))
        self.holds_just_if(False, standing_holds, hall, one, other,
                           ("barred", tuple(tuple(place == 1 if place < 2 else place for place in turn)
                                            for turn in paper[1])))

    def test_wrong_standings(self):
        hall = row_hall(4)
        right = ((0, 0), (2, 3))
        for wrong, at in (
                (((0, 0), (0, 1)), 1), (((1, 0), (0, 1)), 1), (((0, 0), (1, 0)), 1), (((0, 4),), 0), (((0, -1),), 0),
                (((-1, 0),), 0), (((0,),), 0), (((0, 1, 2),), 0), (((True, 0),), 0), (((0, True),), 0), ((None,), 0),
                (("00",), 0), (((0, 0), (1, 1), (2, 0), (3, 0)), 2), (((0, 0), (1, 1), (2, 2), (1, 3)), 3), ("", -1),
                (None, -1), (0, -1), ({(0, 0): 1}, -1)):
            self.told(InvalidStanding, at, home_tree, hall, wrong)
            self.told(InvalidStanding, at, turned_count, hall, wrong)
            self.told(InvalidStanding, at, standing_count, hall, wrong)
            self.told(InvalidStanding, at, standing_paper, hall, wrong, right)
            self.told(InvalidStanding, at, standing_paper, hall, right, wrong)
            self.told(InvalidStanding, at, standing_holds, hall, right, wrong, ())
            self.told(InvalidHall, -1, standing_paper, None, wrong, wrong)

    def test_the_order_of_refusals(self):
        one_way = Hall(("free",) * 13, [(0, 1)])
        hall = row_hall(13)
        many = tuple((robot, robot) for robot in range(7))
        others = tuple((robot + 1, robot) for robot in range(7))
        self.told(InvalidStanding, 0, standing_paper, one_way, many, ((0, 13),))
        self.told(Refused, "ways", standing_paper, one_way, many, others)
        self.told(Refused, "robots", standing_paper, hall, many, others)
        self.told(Refused, "many", standing_paper, hall, many, many)
        self.told(Refused, "lots", standing_paper, hall, many[:6], many[:6])
        self.told(Refused, "robots", standing_paper, hall, many[:1], ())
        for call in (turned_count, standing_count):
            self.told(InvalidStanding, -1, call, one_way, None)
            self.told(Refused, "ways", call, one_way, many)
            self.told(Refused, "many", call, hall, many)
            self.told(Refused, "lots", call, hall, many[:6])
        self.told(Refused, "ways", home_tree, one_way, ((0, 5),))
        for value in (("lots",), ("moves", ()), None):
            self.told(InvalidStanding, 0, standing_holds, one_way, many, ((0, 13),), value)
            self.told(Refused, "ways", standing_holds, one_way, many, others, value)
            self.told(Refused, "robots", standing_holds, hall, many, others, value)
            self.told(Refused, "many", standing_holds, hall, many, many, value)
            self.told(Refused, "lots", standing_holds, hall, many[:6], many[:6], value)


class CountTest(PromiseCase):
    def test_other_halls(self):
        chance = random.Random(10)
        for hall in some_halls(11, 120, 6):
            standing = some_standing(chance, hall, chance.randint(0, min(4, hall.cells)))
            come = all_that_come(hall, standing)
            turned = [other for other in come if cells_of(other) == cells_of(standing)]
            self.tells(len(turned), turned_count, hall, standing)
            self.tells(len(come), standing_count, hall, standing)
            self.assertEqual(len(come), len(turned) * len(home_tree(hall, standing)))
            self.assertEqual(made_of(all_walks(hall, standing), len(standing)),
                             {places_of(other, standing) for other in turned})

    def test_example(self):
        hall = read_drawing("P.P\n#P#")
        self.tells(2, turned_count, hall, [(0, 0), (1, 2)])
        self.tells(12, standing_count, hall, [(0, 0), (1, 2)])

    def test_in_a_row_nobody_changes_order(self):
        for robots in range(6):
            standing = tuple((robot, robot) for robot in range(robots))
            self.tells(1, turned_count, row_hall(7), standing)

    def test_in_a_ring_the_round_order_stays(self):
        for cells in range(3, 9):
            for robots in range(1, min(cells, 7)):
                standing = tuple((robot, robot) for robot in range(robots))
                self.tells(robots, turned_count, ring_hall(cells), standing)

    def test_with_one_empty_cell_in_a_hall_of_two_colours(self):
        for hall, colours in ((read_drawing("...\n..#"), None), (read_drawing("...\n..."), None), (ring_hall(4), None)):
            if hall.places:
                colours = [sum(place) % 2 for place in hall.places]
            else:
                colours = [cell % 2 for cell in range(hall.cells)]
            one = tuple((robot, robot) for robot in range(hall.cells - 1))
            for other in all_that_come(hall, one):
                empty = next(cell for cell in range(hall.cells) if cell not in cells_of(other))
                row = [cell for _, cell in other] + [empty]
                turned = sum(row[at] > row[later] for at, later in itertools.combinations(range(len(row)), 2))
                self.assertEqual(turned % 2 == 0, colours[empty] == colours[hall.cells - 1])

    def test_six_robots(self):
        standing = tuple((robot, robot) for robot in range(6))
        # Rows between 0 and 1: of two colours; not so; and the one hall in which less come (Wilson).
        coloured = tied_hall(7, [(0, 2), (2, 1), (0, 3), (3, 1), (0, 4), (4, 5), (5, 6), (6, 1)])
        mixed = tied_hall(7, [(0, 1), (0, 2), (2, 3), (3, 1), (0, 4), (4, 5), (5, 6), (6, 1), (2, 5), (0, 3)])
        lesser = tied_hall(7, [(0, 2), (2, 1), (0, 3), (3, 4), (4, 1), (0, 5), (5, 6), (6, 1)])
        self.tells(360, turned_count, coloured, standing)
        self.tells(720, turned_count, mixed, standing)
        self.tells(120, turned_count, lesser, standing)
        self.tells(720, turned_count, read_drawing("....\n#.#.\n...."), standing)
        self.tells(6, turned_count, ring_hall(8), standing)
        self.tells(7 * 720, standing_count, mixed, standing)

    def test_kinds_do_not_count(self):
        for kind in ("free", "park", "shelf"):
            self.tells(3, standing_count, tied_hall(3, [(0, 1), (1, 2)], kind), ((0, 0), (1, 1)))


if __name__ == "__main__":
    unittest.main()
