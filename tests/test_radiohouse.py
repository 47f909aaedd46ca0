"""[77]: the house by radio."""

import copy
import random
import unittest

from nobodymeets import errors
from nobodymeets.errors import (InvalidHall, InvalidIndex, InvalidLetter, InvalidRobots, InvalidScript, NoRobot, Refused)
from nobodymeets.halls import read_drawing
from nobodymeets.house import house_again
from nobodymeets.radiohouse import RadioHouse
from tests.helpers import PromiseCase, is_tupled, no_integers, no_numbers_below, odd_values, same
from tests.house_model import HouseModel, any_word
from tests.test_house import DRAWINGS, look

HALL = read_drawing("P.H\nP..")


class RadioModel:
    """[77]: a radio house told a second time, straight from the document."""

    def __init__(self, hall, homes, brains):
        self.house = HouseModel(hall, homes)
        self.hall, self.homes, self.bag = hall, homes, []
        self.taken = [set() for _ in homes]
        self.heard = [set() for _ in range(brains)]

    def is_known(self, brain, visit):
        """Whether a brain was told that a visit is over, or a later one of its robot."""
        number = self.house.robots[visit.robot].visits.index(visit)
        return any(robot == visit.robot and number <= over for robot, over in self.heard[brain])

    def put(self, letter):
        if letter not in self.bag:
            self.bag.append(letter)

    def put_holds(self):
        for brain, heard in enumerate(self.heard):
            if heard is not None:
                for row in self.house.rows:
                    left = [visit for visit in row if not self.is_known(brain, visit)]
                    for visit in left[:1]:
                        self.put(("hold", visit.robot, self.house.robots[visit.robot].visits.index(visit)))

    def may_begin(self, number):
        robot = self.house.robots[number]
        if not robot.is_in or robot.between or robot.broken or robot.at + 1 == len(robot.visits):
            return False
        return robot.at + 1 in self.taken[number]

    def error_of(self, word):
        """(The error's name, what it keeps) of a word that has the form of one, or None."""
        if word[0] == "start":
            if not 0 <= word[1] < len(self.homes):
                return ("NoRobot", word[1])
            return None if self.may_begin(word[1]) else ("Refused", word[1])
        if word[0] not in ("take", "tell", "fall", "rise"):
            return self.house.error_of(word)
        if word[0] != "take" and not 0 <= word[1] < len(self.heard):
            return ("InvalidIndex", -1)
        if word[0] in ("take", "tell"):
            if not 0 <= word[-1] < len(self.bag):
                return ("InvalidLetter", -1)
            if self.bag[word[-1]][0] != ("hold" if word[0] == "take" else "left"):
                return ("Refused", "word")
        if word[0] in ("tell", "fall") and self.heard[word[1]] is None:
            return ("Refused", "down")
        return ("Refused", "up") if word[0] == "rise" and self.heard[word[1]] is not None else None

    def do_word(self, word):
        told = (word[0],)
        if word[0] == "take":
            self.take(self.bag[word[1]])
        elif word[0] == "tell":
            self.heard[word[1]].add(self.bag[word[2]][1:])
        elif word[0] == "fall":
            self.heard[word[1]] = None
        elif word[0] == "rise":
            self.heard[word[1]] = set()
        else:
            told = self.house.do_word(word)
            if word[0] == "come":
                self.put(("left", word[1], self.house.robots[word[1]].at - 1))
        self.put_holds()
        return told

    def take(self, letter):
        self.taken[letter[1]].add(letter[2])

    def sweep(self):
        self.put_holds()
        number = 0
        while number < len(self.bag):
            letter = self.bag[number]
            if letter[0] == "hold":
                self.take(letter)
            else:
                for heard in self.heard:
                    if heard is not None:
                        heard.add(letter[1:])
            self.put_holds()
            number += 1

    def met(self):
        places = [self.house.place(number) for number in range(len(self.homes))]
        return min([(cell, one, other) for other, cells in enumerate(places) for one in range(other)
                    for cell in cells if cell in places[one]], default=None)


def random_word(chance, model):
    kind = chance.randrange(20)
    ready = [robot for robot in range(len(model.homes)) if model.may_begin(robot)]
    if kind < 3 and ready:
        return ("start", chance.choice(ready))
    again = [(name, robot) for robot in range(len(model.homes)) for name in ("fetch", "put") if model.house.may(name, robot)]
    if kind < 5 and again:
        return chance.choice(again)
    if kind < 9:
        return any_word(chance, model.hall, model.homes, model.house)
    if kind < 13:
        return ("take", chance.randint(0, len(model.bag)))
    if kind < 17:
        lefts = [number for number, letter in enumerate(model.bag) if letter[0] == "left"]
        number = chance.choice(lefts) if lefts and chance.random() < 0.8 else chance.randint(0, len(model.bag))
        return ["tell", chance.randrange(len(model.heard) + (kind == 13)), number]
    return (chance.choice(("fall", "rise", "rise")), chance.randrange(len(model.heard) + (kind == 17)))


class HouseTest(PromiseCase):
    def test_example(self):
        whole = RadioHouse(HALL, [0, 3])
        self.assertTrue(same(whole.bag, ()))
        self.assertEqual([whole.do_word(word) for word in (("errand", [2]), ("deal",))][1], ("errand", 0, 0))
        self.assertEqual((whole.may_begin(0), whole.house.can_start(0)), (False, True))
        self.assertIsNone(whole.sweep_bag())
        self.assertTrue(whole.may_begin(0))
        self.assertEqual([whole.do_word(word)[0] for word in (("start", 0), ("fall", 0), ("come", 0))], ["start", "fall", "come"])
        self.assertEqual(whole.bag[-1], ("left", 0, 0))

    def test_the_bag_letter_by_letter(self):
        whole = RadioHouse(HALL, (0, 3), 2)
        whole.do_word(("errand", (2,)))
        self.assertEqual(whole.bag, (("hold", 0, 0), ("hold", 1, 0)))
        whole.do_word(("deal",))
        self.assertEqual(whole.bag, (("hold", 0, 0), ("hold", 1, 0), ("hold", 0, 1), ("hold", 0, 2)))
        self.assertEqual([whole.do_word(word) for word in (("take", 2), ("start", 0), ("come", 0))],
                         [("take",), ("start",), ("come",)])
        self.assertEqual(whole.bag[4:], (("left", 0, 0),))
        self.assertEqual(whole.do_word(("tell", 1, 4)), ("tell",))
        # Cell 0 is the home, where the last visit is granted then; cell 1's second visit is not the first one left.
        self.assertEqual(whole.bag[5:], (("hold", 0, 4),))

    def test_words_by_chance(self):
        chance = random.Random(1)
        done, raised = {}, set()
        for drawing, homes in DRAWINGS * 16:
            hall, brains = read_drawing(drawing), chance.randint(1, 4)
            whole, model = RadioHouse(hall, homes, brains), RadioModel(hall, homes, brains)
            for _ in range(70):
                if chance.random() < 0.2:
                    self.assertIsNone(whole.sweep_bag())
                    model.sweep()
                    if any(heard is not None for heard in model.heard):
                        # Behind a sweep, if a brain is up, just those who can start may begin.
                        for robot in range(len(homes)):
                            self.assertEqual(whole.may_begin(robot), model.house.can_start(robot))
                word = random_word(chance, model)
                fault = model.error_of(word)
                if fault is not None:
                    before = (whole.bag, look(whole.house))
                    self.told(getattr(errors, fault[0]), fault[1], whole.do_word, word)
                    self.assertEqual((whole.bag, look(whole.house)), before)
                    raised.add(fault if isinstance(fault[1], str) else fault[0])
                else:
                    self.assertTrue(same(whole.do_word(word), model.do_word(word)), word)
                    done[word[0]] = done.get(word[0], 0) + 1
                self.assertTrue(same(whole.bag, tuple(model.bag)) and is_tupled(whole.bag))
                self.tells(None, whole.met_cell)
                self.assertIsNone(model.met())
                for robot in range(len(homes)):
                    self.tells(model.may_begin(robot), whole.may_begin, robot)
                    self.assertEqual(whole.house.robot_place(robot), model.house.place(robot))
                    # Whoever may begin can start in the house.
                    self.assertTrue(model.house.can_start(robot) or not whole.may_begin(robot))
            self.assertEqual(look(house_again(hall, homes, whole.house.words)), look(whole.house))
            self.assertLessEqual(len(whole.bag), 2 * sum(len(robot.visits) for robot in model.house.robots))
        self.assertTrue(all(done.get(name, 0) > 20 for name in (
            "errand", "deal", "start", "come", "break", "fetch", "put", "take", "tell", "fall", "rise")), done)
        self.assertEqual(raised, {"InvalidScript", "NoRobot", "Refused", "InvalidIndex", "InvalidLetter", ("Refused", "word"),
                                  ("Refused", "down"), ("Refused", "up")})

    def test_without_errands(self):
        whole = RadioHouse(HALL, (0, 3))
        whole.sweep_bag()
        self.assertEqual((whole.bag, whole.may_begin(0), whole.met_cell()),
                         ((("hold", 0, 0), ("hold", 1, 0)), False, None))

    def test_a_sweep_with_no_brain_up(self):
        whole = RadioHouse(HALL, (0, 3))
        whole.do_word(("fall", 0))
        for word in (("errand", [2]), ("deal",)):
            whole.do_word(word)
        whole.sweep_bag()
        self.assertEqual((whole.bag, whole.may_begin(0), whole.house.can_start(0)), ((), False, True))
        whole.do_word(("rise", 0))
        self.assertEqual(len(whole.bag), 4)
        self.assertFalse(whole.may_begin(0))
        whole.sweep_bag()
        self.assertTrue(whole.may_begin(0))

    def test_fetched_and_put_in_while_letters_are_in_the_bag(self):
        whole = RadioHouse(HALL, (0, 3))
        for word in (("errand", [2]), ("deal",)):
            whole.do_word(word)
        whole.sweep_bag()
        for word in (("start", 0), ("come", 0), ("break", 0), ("fetch", 0)):
            told = whole.do_word(word)
        self.assertEqual((told, whole.may_begin(0)), (("fetch", 0), False))
        self.assertEqual(whole.do_word(("put", 0)), ("put",))
        # The home is visit 5 now: 0 to 4 were planned ahead, and never come again.
        self.assertIn(("hold", 0, 5), whole.bag)
        number = whole.bag.index(("hold", 0, 1))
        whole.do_word(("take", number))
        whole.do_word(("deal",))
        self.assertEqual(whole.house.errand_of(0), ((2,), 0))
        self.assertFalse(whole.may_begin(0))
        whole.sweep_bag()
        self.assertTrue(whole.may_begin(0))
        self.assertIn(("hold", 0, 6), whole.bag)
        # Robots that are out may take letters, too.
        whole.do_word(("break", 1))
        whole.do_word(("fetch", 1))
        self.assertEqual(whole.do_word(("take", whole.bag.index(("hold", 1, 0)))), ("take",))
        self.assertFalse(whole.may_begin(1))

    def test_cells_planned_behind_a_visit_that_is_not_over(self):
        whole = RadioHouse(HALL, (0, 3))
        for word in (("errand", [2]), ("deal",), ("errand", [2]), ("deal",)):
            whole.do_word(word)
        whole.sweep_bag()
        self.assertEqual([whole.may_begin(robot) for robot in (0, 1)], [True, True])
        for word in (("start", 0), ("come", 0), ("start", 1), ("come", 1)):
            whole.do_word(word)
        whole.sweep_bag()
        # Robot 1 goes on behind robot 0 alone, however often the bag is swept.
        self.assertEqual([whole.may_begin(robot) for robot in (0, 1)], [True, False])
        self.assertEqual(whole.house.can_start(1), False)

    def test_brains_fall_and_rise(self):
        whole = RadioHouse(HALL, (0, 3), 3)
        for word in (("errand", [2]), ("deal",)):
            whole.do_word(word)
        for _ in range(12):
            whole.sweep_bag()
            for brain in (0, 1, 2):
                whole.do_word(("fall", brain))
                whole.do_word(("rise", brain))
            for word in (("start", 0), ("come", 0)):
                try:
                    whole.do_word(word)
                except Refused:
                    pass
        self.assertEqual((whole.house.moves_left(0), whole.house.robot_place(0)), (0, (0,)))

    def test_all_is_done_at_last(self):
        chance = random.Random(2)
        for drawing, homes in DRAWINGS:
            hall = read_drawing(drawing)
            whole = RadioHouse(hall, homes, 2)
            ends = [cell for cell, kind in hall.marks if kind != "park"]
            for _ in range(6):
                whole.do_word(("errand", [chance.choice(ends)]))
                whole.do_word(("deal",))
            for _ in range(300):
                whole.sweep_bag()
                for robot in chance.sample(range(len(homes)), len(homes)):
                    if whole.may_begin(robot):
                        whole.do_word(("start", robot))
                        whole.do_word(("come", robot))
                        self.assertIsNone(whole.met_cell())
            for number in range(6):
                self.assertIn(whole.house.moves_left(number), (0, None))

    def test_a_brain_that_forgot_tells_what_was_so(self):
        # What it tells anew is over already, so nobody is let in by it.
        whole = RadioHouse(HALL, (0, 3))
        for word in (("errand", [2]), ("deal",)):
            whole.do_word(word)
        whole.sweep_bag()
        twin = copy.deepcopy(whole)
        for word in (("start", 0), ("come", 0), ("fall", 0), ("rise", 0)):
            whole.do_word(word)
            twin.do_word(word) if word[0] in ("start", "come") else None
        self.assertEqual((whole.bag, whole.may_begin(0)), (twin.bag, twin.may_begin(0)))


class WrongTest(PromiseCase):
    def test_words_that_are_none(self):
        whole = RadioHouse(HALL, (0, 3))
        whole.sweep_bag()
        for word in odd_values() + [("take",), ("take", 0, 0), ("tell", 0), ("tell", 0, 0, 0), ("fall",), ("rise", 0, 0), ("start",),
                                    ("deal", 0), ("errand", [1]), ("errand", []), ("lose", 0), "deal", ("hold", 0, 1)]:
            if word != [["start", 0]]:
                self.told(InvalidScript, -1, whole.do_word, word)
        for value in odd_values() + [2, -1]:
            for name in ("start", "come", "break", "fetch", "put"):
                self.told(NoRobot, value, whole.do_word, (name, value))
            self.told(NoRobot, value, whole.may_begin, value)
        for value in no_numbers_below(1):
            for word in (("tell", value, None), ("fall", value), ("rise", value)):
                self.told(InvalidIndex, -1, whole.do_word, word)
        for value in no_numbers_below(2):
            self.told(InvalidLetter, -1, whole.do_word, ("take", value))
            self.told(InvalidLetter, -1, whole.do_word, ["tell", 0, value])
        self.told(Refused, "word", whole.do_word, ("tell", 0, 1))
        self.told(Refused, "up", whole.do_word, ("rise", 0))
        whole.do_word(("fall", 0))
        self.told(Refused, "down", whole.do_word, ("fall", 0))
        self.told(Refused, "word", whole.do_word, ("tell", 0, 1))
        self.assertEqual(whole.house.words, ())
        self.assertRaises(TypeError, iter, whole)
        self.assertRaises(TypeError, len, whole)

    def test_houses_that_are_none(self):
        for value in odd_values():
            if not hasattr(value, "kinds"):
                self.told(InvalidHall, -1, RadioHouse, value, None, None)
        for homes, at in ((None, -1), ((), -1), ((0, 0), 1), ((0, 1), 1), ((2,), 0)):
            self.told(InvalidRobots, at, RadioHouse, HALL, homes, None)
        for brains in no_integers() + [0, -1, 5]:
            self.told(InvalidIndex, 0, RadioHouse, HALL, (0, 3), brains)
            self.told(InvalidIndex, 0, RadioHouse, hall=HALL, homes=(0, 3), brains=brains)


if __name__ == "__main__":
    unittest.main()
