"""[72], [73]: the house."""

import random
import unittest

from nobodymeets import errors
from nobodymeets.errors import InvalidHall, InvalidIndex, InvalidRobots, InvalidScript, NoRobot, Refused
from nobodymeets.halls import Hall, read_drawing, take_way
from nobodymeets.house import House, house_again
from tests.helpers import PromiseCase, is_tupled, listed, odd_values, same
from tests.house_model import ROBOT_WORDS, HouseModel, any_word

SQUARE = "P.H\nP.."
DRAWINGS = (
    (SQUARE, (0, 3)), (SQUARE, (3, 0)), ("P.H\n...\nS.P", (0, 8)), ("PHS", (0,)), ("P.P\n.H.\nP.S", (6, 0, 2)),
    ("P>.H\n#^#v\nPS<.", (0, 6)), ("P.H.P\n.....\nS.P.C", (4, 0, 12)), ("PH#P\n.##.\nS.CS", (0, 2)),
    ("P..S\nPH.P\nP..C", (0, 4, 7, 8)), ("PPPPPP\n......\nS.H..C", (0, 1, 2, 3, 4, 5)), ("H.S\n#P#", (3,)),
    ("P.#H\nP.S.", (0, 3)),
)


def look(house):
    """All that a house tells."""
    robots, errands = range(len(house.homes)), range(count_errands(house))
    return (house.hall, house.homes, house.words, [house.robot_place(robot) for robot in robots],
            [house.can_start(robot) for robot in robots], [house.waits_on(robot) for robot in robots],
            [house.moves_left(number) for number in errands], [house.barred_by(number) for number in errands],
            house.undealt(), [house.errand_of(number) for number in errands])


def count_errands(house):
    return len([word for word in house.words if word[0] == "errand"])


def done(drawing, homes, *words):
    """A house in which words were done, and what was told for the last one."""
    house = House(read_drawing(drawing), homes)
    told = None
    for word in words:
        told = house.do_word(word)
    return house, told


class HouseTest(PromiseCase):
    def test_example(self):
        house = House(read_drawing("P.H\nP.."), [0, 3])
        words = (("errand", [2]), ("deal",), ("errand", [2]), ("deal",), ("start", 0), ("come", 0), ("start", 1),
                 ("come", 1))
        self.assertEqual([house.do_word(word) for word in words][1:4:2], [("errand", 0, 0), ("errand", 1, 1)])
        self.assertEqual((house.robot_place(0), house.robot_place(1)), ((1,), (4,)))
        self.assertEqual((house.can_start(1), house.waits_on(1), house.moves_left(1)), (False, 0, 5))

    def test_at_first(self):
        hall = read_drawing(SQUARE)
        house = House(hall, [3, 0])
        self.assertIs(house.hall, hall)
        self.assertTrue(same(house.homes, (3, 0)))
        self.assertTrue(same(house.words, ()))
        self.assertEqual([house.robot_place(robot) for robot in range(2)], [(3,), (0,)])
        self.assertEqual([house.can_start(robot) for robot in range(2)], [False, False])
        self.assertEqual([house.waits_on(robot) for robot in range(2)], [None, None])
        self.assertTrue(same(house.undealt(), ()))
        for call in (house.moves_left, house.barred_by, house.errand_of):
            self.told(InvalidIndex, -1, call, 0)

    def test_wrong_homes(self):
        hall = read_drawing("PPPPPPP\n.HS.C..")
        for homes, at in (([7], 0), ([8], 0), ([9], 0), ([11], 0), ([0, 0], 1), ([0, 1, 1, 0], 2), ([0, 14], 1), ([-1], 0),
                          ([True], 0), ([0, True], 1), ([None], 0), ([0, (1,)], 1), ([], -1), (range(3), -1), (None, -1),
                          ("0", -1), (0, -1), ([0, 1, 2, 3, 4, 5, 6], -1), ([8] * 7, -1), ([1, 0, False], 2)):
            self.told(InvalidRobots, at, House, hall, homes)
            self.told(InvalidRobots, at, house_again, hall, homes, ())
        self.assertEqual(House(hall, (5, 4, 3, 2, 1, 0)).homes, (5, 4, 3, 2, 1, 0))
        self.told(InvalidHall, -1, House, None, None)

    def test_errands_wait(self):
        house = House(read_drawing("P.H\nSC."), (0,))
        self.tells(("waits", 0), house.do_word, ("errand", [2]))
        self.tells(("waits", 1), house.do_word, ["errand", (3, 2, 3, 4, 2, 3)])
        self.assertTrue(same(house.undealt(), (0, 1)))
        self.assertTrue(same(house.errand_of(1), ((3, 2, 3, 4, 2, 3), None)))
        self.assertEqual((house.moves_left(0), house.barred_by(0)), (None, ()))
        self.assertTrue(same(house.words, (("errand", (2,)), ("errand", (3, 2, 3, 4, 2, 3)))))

    def test_wrong_errands(self):
        house = House(read_drawing("P.H\nSCP"), (0,))
        for goals in ([], [2, 3, 2, 3, 2, 3, 2], [1], [0], [5], [2, 2], [3, 2, 2], [6], [-1], [True], [2, None], ["2"],
                      None, 2, "2", [[2]], (2, 3, 3), [4, 1], {2: 3}):
            self.told(InvalidScript, -1, house.do_word, ("errand", goals))
        self.assertEqual((house.words, house.undealt()), ((), ()))

    def test_no_words(self):
        house = House(read_drawing("P.H"), (0,))
        words = odd_values() + [("errand",), ("errand", [2], 0), ("deal", 0), ("start",), ("start", 0, 0), "deal",
                                ("Deal",), ("",), ("break",), ("fall",), ("fall", 0), ("take", 0), (["deal"],), [[]],
                                ("errands", [2]), (0, 0), (None, 0), ("lose", 0), ("order", 2, ((0, 1),)), ("mend", 0)]
        for word in words:
            self.told(InvalidScript, -1, house.do_word, word)
            self.told(InvalidScript, 0, house_again, house.hall, (0,), [word])
        self.assertEqual(house.words, ())

    def test_no_robots(self):
        house = House(read_drawing("P.H\nP.."), (0, 3))
        for name in ROBOT_WORDS:
            for robot in (2, -1, 10 ** 9, True, False):
                self.told(NoRobot, robot, house.do_word, (name, robot))
        for robot in (2, -1, True, False, None, "0", (0,), [0]):
            for call in (house.robot_place, house.can_start, house.waits_on):
                self.told(NoRobot, robot, call, robot)

    def test_numbers_of_no_errand(self):
        house, _ = done(SQUARE, (0, 3), ("errand", (2,)))
        for number in (1, -1, True, False, None, "0", (0,)):
            for call in (house.moves_left, house.barred_by, house.errand_of):
                self.told(InvalidIndex, -1, call, number)

    def test_a_way_there_and_back(self):
        house, _ = done(SQUARE, (0, 3), ("errand", (2,)), ("deal",))
        places, lefts = [], []
        while house.can_start(0):
            self.tells(("start",), house.do_word, ["start", 0])
            places.append(house.robot_place(0))
            lefts.append(house.moves_left(0))
            self.assertFalse(house.can_start(0))
            self.told(Refused, 0, house.do_word, ("start", 0))
            self.tells(("come",), house.do_word, ["come", 0])
            places.append(house.robot_place(0))
        self.assertEqual(places, [(0, 1), (1,), (1, 2), (2,), (2, 1), (1,), (1, 0), (0,)])
        self.assertEqual(lefts, [2, 1, 0, 0])
        self.assertTrue(same(house.errand_of(0), ((2,), 0)))
        self.told(Refused, 0, house.do_word, ("start", 0))

    def test_refused_at_first(self):
        house, _ = done(SQUARE, (0, 3), ("errand", (2,)), ("deal",))
        for word in (("start", 1), ("come", 0), ("come", 1), ("fetch", 0), ("put", 0)):
            self.told(Refused, word[1], house.do_word, word)

    def test_nothing_to_deal_and_nobody_there(self):
        house, told = done(SQUARE, (0,), ("deal",))
        self.assertTrue(same(told, ("none",)))
        for word in (("break", 0), ("errand", (2,))):
            house.do_word(word)
        self.tells(("none",), house.do_word, ("deal",))
        self.tells(("fetch",), house.do_word, ("fetch", 0))
        self.tells(("none",), house.do_word, ("deal",))
        self.tells(("put",), house.do_word, ("put", 0))
        self.tells(("errand", 0, 0), house.do_word, ("deal",))
        self.assertEqual(house.words, (("deal",), ("break", 0), ("errand", (2,)), ("deal",), ("fetch", 0), ("deal",),
                                       ("put", 0), ("deal",)))

    def test_dealt_to_the_fewest_visits_ahead_then_the_least(self):
        house, _ = done(SQUARE, (3, 0), ("errand", (2,)), ("errand", (2,)), ("errand", (2,)), ("errand", (2,)))
        self.tells(("errand", 0, 0), house.do_word, ("deal",))
        self.tells(("errand", 1, 1), house.do_word, ("deal",))
        self.tells(("errand", 2, 1), house.do_word, ("deal",))
        self.tells(("errand", 3, 0), house.do_word, ("deal",))

    def test_visits_ahead_are_those_not_yet_come_to(self):
        house, _ = done(SQUARE, (0, 3), ("errand", (2,)), ("deal",), ("errand", (2,)), ("break", 1), ("fetch", 1),
                        ("put", 1), ("deal",), ("start", 0), ("come", 0), ("start", 0), ("come", 0))
        self.assertEqual(house.errand_of(1), ((2,), 1))
        house.do_word(("errand", (2,)))
        self.tells(("errand", 2, 0), house.do_word, ("deal",))

    def test_cut(self):
        house, told = done("PH#P\n.##.\nS.CS", (0, 2), ("errand", (7,)), ("deal",))
        self.assertTrue(same(told, ("cut", 0, 0, 7, (0, 3))))
        house, told = done("P#S", (0,), ("errand", (1,)), ("deal",))
        self.assertTrue(same(told, ("cut", 0, 0, 1, (0,))))
        house, told = done("P.H#S", (0,), ("errand", (3,)), ("deal",))
        self.assertTrue(same(told, ("cut", 0, 0, 3, (0, 1))))
        self.assertTrue(same(house.undealt(), (0,)))
        self.assertEqual((house.errand_of(0), house.moves_left(0), house.barred_by(0)), (((3,), None), None, ()))
        house.do_word(("errand", (2,)))
        self.assertTrue(same(house.do_word(["deal"]), ("cut", 0, 0, 3, (0, 1))))
        self.assertEqual(house.words[-1], ("deal",))

    def test_cut_off_from_home_and_between_goals(self):
        house = House(take_way(read_drawing("P.H"), 1, 0), (0,))
        house.do_word(("errand", (2,)))
        self.tells(("cut", 0, 0, 0, (1, 2)), house.do_word, ("deal",))
        house = House(read_drawing("P>H\n#.#\n#.#"), (0,))
        house.do_word(("errand", (2,)))
        self.tells(("cut", 0, 0, 0, (1, 2)), house.do_word, ("deal",))
        house = House(read_drawing("P.H#S\n..#.."), (0,))
        house.do_word(("errand", (2, 3)))
        self.tells(("cut", 0, 0, 3, (1, 2, 4, 5)), house.do_word, ("deal",))

    def test_the_first_robot_looked_at_is_told_and_others_that_have_a_way_are_dealt_to(self):
        drawing = "P#P.H\n.#...\nS####"
        house, told = done(drawing, (0, 1), ("errand", (3,)), ("deal",))
        self.assertTrue(same(told, ("errand", 0, 1)))
        house, told = done(drawing, (0, 1), ("errand", (3,)), ("deal",), ("break", 1), ("errand", (3,)), ("deal",))
        self.assertTrue(same(told, ("cut", 1, 0, 3, (0, 4))))
        house, told = done(drawing, (0, 1), ("errand", (3,)), ("deal",), ("errand", (8, 3)), ("deal",))
        self.assertTrue(same(told, ("cut", 1, 0, 3, (4, 8))))
        house, told = done(drawing, (0, 1), ("errand", (8,)), ("deal",), ("errand", (8, 3)), ("deal",))
        self.assertTrue(same(told, ("cut", 1, 1, 8, (1, 2, 5, 6, 7))))

    def test_the_first_of_the_shortest_legs(self):
        house, _ = done("P..\n..H", (0,), ("errand", (5,)), ("deal",))
        self.assertEqual(self.walk(house, 0), [0, 1, 2, 5, 2, 1, 0])
        house, _ = done("P..\n#..\n..H", (0,), ("errand", (7,)), ("deal",))
        self.assertEqual(self.walk(house, 0), [0, 1, 2, 4, 7, 4, 2, 1, 0])
        house, _ = done("PH.\n..S\n...", (0,), ("errand", (5,)), ("deal",))
        self.assertEqual(self.walk(house, 0), [0, 3, 4, 5, 4, 3, 0])
        house = House(Hall(("park", "free", "free", "shelf", "free"),
                           ((0, 2), (2, 4), (4, 3), (0, 4), (4, 1), (1, 3), (3, 0), (0, 1))), (0,))
        house.do_word(("errand", (3,)))
        house.do_word(("deal",))
        self.assertEqual(self.walk(house, 0), [0, 1, 3, 0])

    def walk(self, house, robot):
        cells = list(house.robot_place(robot))
        while house.can_start(robot):
            house.do_word(("start", robot))
            house.do_word(("come", robot))
            cells.extend(house.robot_place(robot))
        return cells

    def test_a_robot_that_breaks_between_two_cells(self):
        house, _ = done(SQUARE, (0, 3), ("errand", (2,)), ("deal",), ("errand", (2,)), ("deal",), ("start", 0))
        self.tells(("break",), house.do_word, ("break", 0))
        self.assertEqual((house.robot_place(0), house.moves_left(0), house.barred_by(0)), ((0, 1), 2, (0,)))
        self.assertEqual((house.moves_left(1), house.barred_by(1)), (7, (0,)))
        for word in (("come", 0), ("start", 0), ("break", 0), ("put", 0)):
            self.told(Refused, 0, house.do_word, word)
        house.do_word(("start", 1))
        house.do_word(("come", 1))
        self.assertEqual((house.can_start(1), house.waits_on(1)), (False, 0))
        self.tells(("fetch", 0), house.do_word, ["fetch", 0])
        self.assertEqual((house.robot_place(0), house.can_start(0), house.waits_on(0)), ((), False, None))
        self.assertEqual((house.can_start(1), house.waits_on(1), house.moves_left(1)), (True, None, 2))
        self.assertEqual((house.undealt(), house.errand_of(0), house.barred_by(1)), ((0,), ((2,), None), ()))
        for word in (("come", 0), ("start", 0), ("break", 0), ("fetch", 0), ("put", 1)):
            self.told(Refused, word[1], house.do_word, word)
        self.tells(("put",), house.do_word, ("put", 0))
        self.assertEqual((house.robot_place(0), house.can_start(0)), ((0,), False))
        self.tells(("errand", 0, 0), house.do_word, ("deal",))
        self.assertEqual((house.moves_left(0), house.moves_left(1)), (6, 2))

    def test_a_fetched_robots_errands_wait_again(self):
        house, _ = done(SQUARE, (0,), *[("errand", (2,)), ("deal",)] * 3)
        self.assertEqual([house.moves_left(number) for number in range(3)], [2, 6, 10])
        for _ in range(2):
            house.do_word(("start", 0))
            house.do_word(("come", 0))
        self.assertEqual([house.moves_left(number) for number in range(3)], [0, 4, 8])
        house.do_word(("break", 0))
        self.tells(("fetch", 1, 2), house.do_word, ("fetch", 0))
        self.assertEqual((house.undealt(), house.moves_left(0), house.errand_of(0)), ((1, 2), 0, ((2,), 0)))
        house.do_word(("errand", (2,)))
        house.do_word(("put", 0))
        self.assertEqual([house.do_word(("deal",)) for _ in range(4)],
                         [("errand", 1, 0), ("errand", 2, 0), ("errand", 3, 0), ("none",)])

    def test_errands_that_wait_again_are_told_ascending(self):
        house, _ = done(SQUARE, (0, 3), ("errand", (2,)), ("deal",), ("break", 0), ("errand", (2,)), ("deal",),
                        ("fetch", 0), ("deal",), ("break", 1))
        self.assertEqual((house.errand_of(0), house.errand_of(1)), (((2,), 1), ((2,), 1)))
        self.tells(("fetch", 0, 1), house.do_word, ("fetch", 1))

    def test_an_errand_that_a_broken_robot_has_done_is_not_barred(self):
        house, _ = done("P.H", (0,), ("errand", (2,)), ("deal",), *[("start", 0), ("come", 0)] * 2, ("break", 0))
        self.assertEqual((house.moves_left(0), house.barred_by(0)), (0, ()))
        self.tells(("fetch",), house.do_word, ("fetch", 0))
        self.assertEqual((house.moves_left(0), house.barred_by(0), house.undealt()), (0, (), ()))

    def test_a_broken_robot_that_stands_by_bars_nobody(self):
        house, _ = done(SQUARE, (0, 3), ("break", 1), ("errand", (2,)), ("deal",))
        self.assertEqual((house.errand_of(0), house.barred_by(0)), (((2,), 0), ()))
        self.told(Refused, 1, house.do_word, ("break", 1))

    def test_a_house_again(self):
        words = [["errand", [2]], ["deal"], ["start", 0], ["break", 0], ["fetch", 0], ["put", 0], ["deal"]]
        hall = read_drawing(SQUARE)
        house = house_again(hall, [0, 3], words)
        self.assertIsInstance(house, House)
        other = House(hall, (0, 3))
        for word in words:
            other.do_word(word)
        self.assertEqual(look(house), look(other))
        self.assertEqual(house_again(hall, (0,), ()).words, ())
        for words, at in (([("start", 0)], 0), ([("deal",), ("deal",), ("break", 2)], 2), ([("deal",), None], 1),
                          ([("break", 0), ("break", 0), None], 1), (None, -1), ("deal", -1), (0, -1), (["deal"], 0),
                          ([("errand", (2,)), ("errand", (1,))], 1), (("deal",), 0)):
            self.told(InvalidScript, at, house_again, hall, (0,), words)


class AnyWordsTest(PromiseCase):
    def test_any_words(self):
        for seed, (drawing, homes) in enumerate(DRAWINGS):
            for again in range(4):
                self.run_house(random.Random(100 * seed + again), read_drawing(drawing), homes, 120)

    def test_other_halls(self):
        chance = random.Random(9)
        for _ in range(60):
            columns, rows = chance.randint(2, 4), chance.randint(1, 3)
            text = "\n".join("".join(chance.choice("PPHSC.....>v<^#") for _ in range(columns)) for _ in range(rows))
            hall = None if text.replace("#", "").strip() == "" else read_drawing(text)
            if hall is not None and hall.cells_of("park"):
                parks = list(hall.cells_of("park"))[:6]
                chance.shuffle(parks)
                self.run_house(chance, hall, parks[:chance.randint(1, 6)], 60)

    def run_house(self, chance, hall, homes, many):
        house, model = House(hall, homes), HouseModel(hall, homes)
        for _ in range(many):
            word = any_word(chance, hall, homes, model)
            wrong = model.error_of(word)
            if wrong is None:
                self.do_both(house, model, word)
            else:
                before = look(house)
                self.told(getattr(errors, wrong[0]), wrong[1], house.do_word, word)
                self.assertEqual(look(house), before, word)
            self.check_seen(house, model)
            if chance.randrange(30) == 0:
                self.check_comings(model)
        self.assertEqual(look(house_again(hall, listed(homes), listed(house.words))), look(house))

    def do_both(self, house, model, word):
        before = {number: (model.comings(number), model.moves_left(number)) for number in range(len(model.errands))}
        expected = model.do_word(word)
        given = listed(word)
        self.tells(expected, house.do_word, given)
        self.assertEqual(given, listed(word))
        self.assertTrue(is_tupled(house.words) and listed(house.words[-1]) == listed(word))
        if word[0] != "fetch":
            for number, (comings, left) in before.items():
                if left is not None:
                    robot = word[1] if word[0] == "come" else None
                    counted = word[0] == "come" and (robot, model.robots[robot].at) in comings
                    self.assertEqual(house.moves_left(number), left - counted)

    def check_seen(self, house, model):
        robots, errands = range(len(model.robots)), range(len(model.errands))
        places = [house.robot_place(robot) for robot in robots]
        cells = [cell for place in places for cell in place]
        self.assertEqual(len(cells), len(set(cells)), "nobody meets")
        for robot in robots:
            self.assertTrue(same(places[robot], model.place(robot)))
            self.assertIs(house.can_start(robot), model.can_start(robot))
            self.tells(model.waits_on(robot), house.waits_on, robot)
        self.assertTrue(same(house.undealt(), model.undealt()))
        for number in errands:
            self.tells(model.moves_left(number), house.moves_left, number)
            self.tells(model.barred_by(number), house.barred_by, number)
            self.tells(model.errand_of(number), house.errand_of, number)
            if house.moves_left(number) and not house.barred_by(number):
                counted = {robot for robot, _ in model.comings(number)}
                self.assertTrue(any(house.can_start(robot) or len(places[robot]) == 2 for robot in counted))

    def check_comings(self, model):
        """That the model counts just the comings without which an errand is never done."""
        for number in range(len(model.errands)):
            self.assertEqual(sorted(model.comings(number)), model.comings_by_runs(number))

    def test_all_errands_are_done_where_nobody_breaks(self):
        for drawing, homes in DRAWINGS:
            hall = read_drawing(drawing)
            house = House(hall, homes)
            ends = [cell for cell, mark in hall.marks if mark != "park"]
            for number in range(12):
                house.do_word(("errand", [ends[number % len(ends)]]))
                house.do_word(("deal",))
            moves = 0
            while any(house.can_start(robot) for robot in range(len(homes))):
                for robot in range(len(homes)):
                    if house.can_start(robot):
                        house.do_word(("start", robot))
                        house.do_word(("come", robot))
                        moves += 1
            self.assertEqual([house.robot_place(robot) for robot in range(len(homes))], [(home,) for home in homes])
            self.assertEqual({house.moves_left(number) for number in range(12)} - {None}, {0} if moves else set())


if __name__ == "__main__":
    unittest.main()
