"""[5], [6]: halls and their drawings."""

import itertools
import random
import unittest

from nobodymeets.errors import (InvalidCell, InvalidHall, InvalidLot, InvalidSize, InvalidText, Refused)
from nobodymeets.halls import Hall, change_kind, hall_text, lose_cells, put_way, read_drawing, take_way
from tests.helpers import PromiseCase, changed_a_little, is_below, is_int, is_rising, listed, odd_values

KINDS = ("free", "park", "shelf", "station", "charger")
SIGNS = "#.PHSC><^v"
SIGN_KINDS = {"P": "park", "H": "shelf", "S": "station", "C": "charger"}
ALL_STEPS = {">": (1, 0), "<": (-1, 0), "^": (0, -1), "v": (0, 1)}


def fault_of(kinds, ways, places):
    """Which of a hall's parts is wrong, told straight from the document; None: none."""
    sequences = (list, tuple)
    if not isinstance(kinds, sequences) or not 1 <= len(kinds) <= 400 or any(kind not in KINDS for kind in kinds):
        return 0
    if not isinstance(ways, sequences):
        return 1
    for at, way in enumerate(ways):
        if not isinstance(way, sequences) or len(way) != 2 or not all(is_below(cell, len(kinds)) for cell in way):
            return 1
        if way[0] == way[1] or list(way) in [list(other) for other in ways[:at]]:
            return 1
    if not isinstance(places, sequences):
        return 2
    for place in places:
        if not isinstance(place, sequences) or len(place) != 2:
            return 2
        if not all(is_int(number) and number >= 0 for number in place):
            return 2
    if len(places) == 0:
        return None
    if len(places) != len(kinds) or not is_rising([(place[1], place[0]) for place in places]):
        return 2
    for one, other in ways:
        (column, row), (far, deep) = places[one], places[other]
        if sorted((abs(column - far), abs(row - deep))) != [0, 1]:
            return 2
    return None


def drawn(rows):
    """The kinds, ways and places that rows of signs draw."""
    places = [(column, row) for row, line in enumerate(rows) for column, sign in enumerate(line) if sign != "#"]
    ways = []
    for one, (column, row) in enumerate(places):
        sign = rows[row][column]
        for step in [ALL_STEPS[sign]] if sign in ALL_STEPS else ALL_STEPS.values():
            beside = (column + step[0], row + step[1])
            if beside in places:
                ways.append((one, places.index(beside)))
    kinds = tuple(SIGN_KINDS.get(rows[row][column], "free") for column, row in places)
    return kinds, tuple(sorted(ways)), tuple(places)


def parts(hall):
    return hall.kinds, hall.ways, hall.places


class HallTest(PromiseCase):
    def test_attributes(self):
        hall = Hall(["park", "free", "shelf", "free"], [[1, 2], (2, 1), (0, 1), (3, 1)], [[0, 0], (1, 0), (2, 0), (1, 1)])
        self.assertEqual(hall.kinds, ("park", "free", "shelf", "free"))
        self.assertEqual(hall.ways, ((0, 1), (1, 2), (2, 1), (3, 1)))
        self.assertEqual(hall.places, ((0, 0), (1, 0), (2, 0), (1, 1)))
        self.assertEqual(hall.cells, 4)
        self.assertEqual(hall.marks, ((0, "park"), (2, "shelf")))
        self.assertEqual(hall.followers, ((1,), (2,), (1,), (1,)))
        self.assertEqual(hall.neighbours, ((1,), (0, 2, 3), (1,), (1,)))

    def test_a_hall_without_places_and_of_one_cell(self):
        hall = Hall(("charger",), [])
        self.assertEqual(parts(hall), (("charger",), (), ()))
        self.assertEqual((hall.cells, hall.marks, hall.followers, hall.neighbours), (1, ((0, "charger"),), ((),), ((),)))
        self.assertEqual(Hall(("free",) * 2, ((1, 0),)).marks, ())

    def test_a_place_for_the_only_cell(self):
        self.assertEqual(Hall(("free",), (), [(3, 2)]).places, ((3, 2),))

    def test_how_many_cells(self):
        self.assertEqual(Hall(("free",) * 400, ()).cells, 400)
        self.told(InvalidHall, 0, Hall, ("free",) * 401, ())
        self.told(InvalidHall, 0, Hall, (), ())

    def test_wrong_kinds(self):
        for kind in odd_values() + ["wall", "Free", "parks", "fre"]:
            if kind != "free":
                self.told(InvalidHall, 0, Hall, ("free", kind), ())

    def test_wrong_ways(self):
        for ways in (None, "01", 3, [0, 1], ["01"], [(0,)], [(0, 1, 2)], [(0, 2)], [(-1, 0)], [(0, 0)], [(True, 0)],
                     [(0, True)], [(0, None)], [(0, 1), [0, 1]], [(0, 1), (1, 0), (0, 1)], [((0,), 1)], {(0, 1): 1}):
            self.told(InvalidHall, 1, Hall, ("free", "park"), ways)

    def test_wrong_places(self):
        ways = ((0, 1), (1, 0))
        for places in (None, "", 0, [(0, 0)], [(0, 0), (1, 0), (2, 0)], [(1, 0), (0, 0)], [(0, 1), (0, 0)],
                       [(0, 0), (0, 0)], [(0, 0), (2, 0)], [(0, 0), (1, 1)], [(0, 0), (1,)], [(0, 0), (1, 0, 0)],
                       [(0, 0), (True, 0)], [(-1, 0), (0, 0)], [(0, -1), (0, 0)], [(0, 0), "10"], [None, None]):
            self.told(InvalidHall, 2, Hall, ("free", "park"), ways, places)

    def test_places_ascend_by_row_first(self):
        self.assertEqual(Hall(("free",) * 2, (), [(5, 0), (0, 1)]).places, ((5, 0), (0, 1)))
        for places in ([(0, 1), (5, 0)], [(5, 0), (4, 0)], [(5, 3), (5, 2)], [(2, 1), (2, 1)], [(0, 0), (0, 0)]):
            self.told(InvalidHall, 2, Hall, ("free",) * 2, (), places)

    def test_halls_changed_a_little(self):
        for hall in ((["park", "free", "shelf"], [(0, 1), (2, 1)], [(0, 0), (1, 0), (1, 1)]), (("free",), (), ())):
            for changed in changed_a_little(hall):
                if isinstance(changed, (list, tuple)) and len(changed) == 3:
                    self.check_made(*changed)

    def check_made(self, kinds, ways, places):
        fault = fault_of(kinds, ways, places)
        if fault is not None:
            self.told(InvalidHall, fault, Hall, kinds, ways, places)
        else:
            hall = Hall(kinds, ways, places)
            self.assertEqual(listed(hall.ways), sorted(listed(ways)))
            self.assertEqual((listed(hall.kinds), listed(hall.places)), (listed(kinds), listed(places)))

    def test_the_first_wrong_part_is_told(self):
        self.told(InvalidHall, 0, Hall, ("x",), None, None)
        self.told(InvalidHall, 1, Hall, ("free",), None, None)

    def test_equality(self):
        kinds, ways, places = ("park", "free"), ((0, 1), (1, 0)), ((0, 0), (1, 0))
        self.assertTrue(Hall(kinds, ways, places) == Hall(list(kinds), list(reversed(ways)), listed(places)))
        self.assertTrue(Hall(kinds, ways) != Hall(kinds, ways, places))
        self.assertTrue(Hall(kinds, ways) != Hall(kinds, ((0, 1),)))
        self.assertTrue(Hall(kinds, ways) != Hall(("free", "park"), ways))
        self.assertTrue(Hall(kinds, ways, places) != Hall(kinds, ways, ((0, 0), (0, 1))))
        self.assertIs(Hall(kinds, ways) == Hall(kinds, ways), True)

    def test_next_and_near_cells(self):
        hall = Hall(("free",) * 4, ((0, 3), (0, 1), (2, 0)))
        self.assertEqual([hall.next_cells(cell) for cell in range(4)], [(1, 3), (), (0,), ()])
        self.assertEqual([hall.near_cells(cell) for cell in range(4)], [(1, 2, 3), (0,), (0,), (0,)])
        for cell in (4, -1, True, None, "0", (0,)):
            self.told(InvalidCell, -1, hall.next_cells, cell)
            self.told(InvalidCell, -1, hall.near_cells, cell)

    def test_cells_of_kinds(self):
        hall = read_drawing(".PH\nSC>\nHP.")
        self.assertEqual([hall.cells_of(kind) for kind in KINDS], [(0, 5, 8), (1, 7), (2, 6), (3,), (4,)])
        self.assertEqual(read_drawing("P").cells_of("free"), ())
        for kind in ("wall", "", None, 0, ("free",), ["free"], True):
            self.told(InvalidSize, "kind", hall.cells_of, kind)

    def test_two_way(self):
        for ways in itertools.product((0, 1), repeat=6):
            pairs = [pair for pair, there in zip(itertools.permutations(range(3), 2), ways) if there]
            expected = all((other, one) in pairs for one, other in pairs)
            self.holds_just_if(expected, Hall(("free",) * 3, pairs).is_two_way)


class ChangedHallTest(PromiseCase):
    def test_a_way_more_and_less(self):
        for places in ((), ((0, 0), (1, 0), (1, 1))):
            beside = [(0, 1), (1, 0), (1, 2), (2, 1)] if places else list(itertools.permutations(range(3), 2))
            for there in itertools.product((0, 1), repeat=len(beside)):
                ways = [way for way, is_there in zip(beside, there) if is_there]
                hall = Hall(("park", "free", "shelf"), ways, places)
                for one, other in itertools.product(range(3), repeat=2):
                    self.check_put(hall, one, other, (one, other) in beside and (one, other) not in ways)
                    self.check_take(hall, one, other, (one, other) in ways)

    def check_put(self, hall, one, other, may):
        if not may:
            self.told(Refused, -1, put_way, hall, one, other)
        else:
            expected = (hall.kinds, tuple(sorted(hall.ways + ((one, other),))), hall.places)
            self.assertEqual(parts(put_way(hall, one, other)), expected)

    def check_take(self, hall, one, other, may):
        if not may:
            self.told(Refused, -1, take_way, hall, one, other)
        else:
            expected = (hall.kinds, tuple(way for way in hall.ways if way != (one, other)), hall.places)
            self.assertEqual(parts(take_way(hall, one, other)), expected)

    def test_wrong_cells_come_ahead_of_what_is_refused(self):
        hall = Hall(("free",) * 2, ((0, 1),))
        for call in (put_way, take_way):
            self.told(InvalidCell, 0, call, hall, 2, 2)
            self.told(InvalidCell, 0, call, hall, True, 0)
            self.told(InvalidCell, 1, call, hall, 0, 2)
            self.told(InvalidCell, 1, call, hall, 0, None)
            self.told(InvalidHall, -1, call, (hall,), 2, 2)

    def test_lost_cells(self):
        hall = read_drawing("P.H\n.S.")
        for many in range(4):
            for lost in itertools.permutations(range(6), many):
                left = tuple(way for way in hall.ways if way[0] not in lost and way[1] not in lost)
                self.assertEqual(parts(lose_cells(hall, lost)), (hall.kinds, left, hall.places))

    def test_wrong_lost_cells(self):
        hall = Hall(("free",) * 3, ((0, 1),))
        for cells, at in (([3], 0), ([0, 1, 0], 2), ([0, 0, 9], 1), ([2, -1], 1), ([1, True], 1), ([None], 0),
                          ((0, (1,)), 1), ("01", -1), (None, -1), (0, -1)):
            self.told(InvalidLot, at, lose_cells, hall, cells)

    def test_another_kind(self):
        hall = read_drawing("P.\nH#")
        for cell in range(3):
            for kind in KINDS:
                kinds = tuple(kind if other == cell else hall.kinds[other] for other in range(3))
                self.assertEqual(parts(change_kind(hall, cell, kind)), (kinds, hall.ways, hall.places))
        self.told(InvalidCell, -1, change_kind, hall, 3, "x")
        self.told(InvalidSize, "kind", change_kind, hall, 2, "x")
        self.assertEqual(hall, read_drawing("P.\nH#"))


class DrawingTest(PromiseCase):
    def test_each_sign(self):
        hall = read_drawing(".PHSC#><^v")
        self.assertEqual(hall.kinds, ("free", "park", "shelf", "station", "charger") + ("free",) * 4)
        self.assertEqual(hall.places, tuple((column, 0) for column in range(10) if column != 5))
        self.assertEqual(hall.ways, ((0, 1), (1, 0), (1, 2), (2, 1), (2, 3), (3, 2), (3, 4), (4, 3), (5, 6), (6, 5)))

    def test_all_small_drawings(self):
        for columns, rows, signs in ((1, 1, SIGNS), (2, 1, SIGNS), (1, 2, SIGNS), (2, 2, "#.H>v"), (3, 1, "#.P<>")):
            for row in itertools.product(signs, repeat=columns * rows):
                lines = ["".join(row[at:at + columns]) for at in range(0, len(row), columns)]
                self.check_read("\n".join(lines))

    def check_read(self, text):
        expected = drawn(text.split("\n"))
        if not expected[0]:
            self.told(InvalidText, len(text), read_drawing, text)
            return
        hall = read_drawing(text)
        self.assertIsInstance(hall, Hall)
        self.assertEqual(parts(hall), expected, text)

    def test_larger_drawings(self):
        chance = random.Random(5)
        for _ in range(200):
            columns, rows = chance.randint(1, 6), chance.randint(1, 5)
            lines = ["".join(chance.choice(SIGNS + "....") for _ in range(columns)) for _ in range(rows)]
            self.check_read("\n".join(lines))

    def test_wrong_texts(self):
        for text, at in (("", 0), ("\n", 0), ("\n.", 0), (".\n", 2), (".\n\n.", 2), ("..\n.", 3), ("..\n...", 3),
                         ("..\n.x", 4), ("..\nx", 3), ("x\n..", 0), (".x\n.", 1), (". .", 1), (".p", 1), ("..\n..\n.", 6),
                         (".\r\n.", 1), (".\t", 1), ("V", 0), (".\n..x", 2), ("..\n.\nx.", 3), ("#", 1), ("##\n##", 5),
                         ("....x", 4), ("..\n..\n", 6), ("##\n#", 3), ("#x", 1), (".W", 1), ("..\n##\n#-", 7)):
            self.told(InvalidText, at, read_drawing, text)
        for value in (None, 3, True, ["."], ("P.", ".."), b"..", Hall(("free",), ())):
            self.told(InvalidText, -1, read_drawing, value)

    def test_too_many_cells(self):
        self.assertEqual(read_drawing("\n".join(["." * 20] * 20)).cells, 400)
        self.assertEqual(read_drawing("." * 400 + "#").cells, 400)
        self.told(InvalidText, 401, read_drawing, "." * 401)
        many = "\n".join(["." * 20] * 21)
        self.told(InvalidText, len(many), read_drawing, many)
        self.told(InvalidText, len(many) + 1, read_drawing, many + "\n")
        self.told(InvalidText, 3, read_drawing, "..." + "x" + "." * 500)

    def test_texts_of_halls(self):
        for text in (".", "P", "P.H\nP..", ".#.\n#S#\nC.H", ">.\n^<", ".v\n.>", "#.\n##\n.#", "###\n#.#\n#.H"):
            hall = read_drawing(text)
            self.assertEqual(read_drawing(hall_text(hall)), hall, text)
        self.assertEqual(hall_text(read_drawing("P.H\nP..")), "P.H\nP..")
        self.assertEqual(hall_text(read_drawing("#.#\n#H#\n###")), "#.\n#H")
        self.assertEqual(hall_text(read_drawing("###\n#.#")), "##\n#.")

    def test_the_first_sign_that_draws_it(self):
        self.assertEqual(hall_text(read_drawing("^.")), "<.")
        self.assertEqual(hall_text(read_drawing("<")), ".")
        self.assertEqual(hall_text(read_drawing("#v#\n.^.\n#.#")), "#.#\n.^.\n#.#")
        self.assertEqual(hall_text(read_drawing(".\nv")), ".\n>")
        self.assertEqual(hall_text(read_drawing("..\n.v")), "..\n.>")
        self.assertEqual(hall_text(read_drawing("..\n>.")), "..\n>.")
        self.assertEqual(hall_text(read_drawing(".>")), ".>")

    def test_halls_that_none_draws(self):
        self.told(Refused, -1, hall_text, Hall(("free",), ()))
        self.told(Refused, 0, hall_text, take_way(read_drawing("P."), 0, 1))
        self.told(Refused, 1, hall_text, take_way(read_drawing(".P"), 1, 0))
        square = read_drawing("...\n...")
        self.told(Refused, 1, hall_text, take_way(square, 1, 0))
        self.told(Refused, 1, hall_text, take_way(take_way(square, 4, 3), 1, 0))
        self.assertEqual(hall_text(take_way(square, 0, 1)), "v..\n...")
        self.assertEqual(hall_text(take_way(square, 0, 3)), ">..\n...")

    def test_all_halls_of_a_square(self):
        places = ((0, 0), (1, 0), (0, 1), (1, 1))
        pairs = [(0, 1), (1, 0), (0, 2), (2, 0), (1, 3), (3, 1), (2, 3), (3, 2)]
        for kinds in (("free",) * 4, ("free", "park", "free", "free")):
            for there in itertools.product((0, 1), repeat=8):
                ways = tuple(sorted(pair for pair, is_there in zip(pairs, there) if is_there))
                self.check_text(Hall(kinds, ways, places))

    def check_text(self, hall):
        signs = []
        for cell in range(4):
            may = ".><^v" if hall.kinds[cell] == "free" else "P"
            fit = [sign for sign in may if self.draws(hall, cell, sign)]
            if not fit:
                self.told(Refused, cell, hall_text, hall)
                return
            signs.append(fit[0])
        self.assertEqual(hall_text(hall), "".join(signs[:2]) + "\n" + "".join(signs[2:]))
        self.assertEqual(read_drawing(hall_text(hall)), hall)

    def draws(self, hall, cell, sign):
        rows = [["."] * 2, ["."] * 2]
        column, row = hall.places[cell]
        rows[row][column] = sign
        ways = drawn(rows)[1]
        return [way for way in ways if way[0] == cell] == [way for way in hall.ways if way[0] == cell]


if __name__ == "__main__":
    unittest.main()
