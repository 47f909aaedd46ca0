"""[66], [67]: robots that are told by radio where to go."""

import copy
import random
import unittest

from nobodymeets.brain import RadioHall, first_met, plain_carrying, round_meeting
from nobodymeets.carried import Carrying
from nobodymeets.errors import (HallError, InvalidIndex, InvalidLetter, InvalidOrders, InvalidRoutes, InvalidScript,
                                NoRobot, Refused)
from nobodymeets.passings import need_passings, passing_paper
from tests.helpers import PromiseCase, is_tupled, listed, no_integers, no_numbers_below, no_sequences, odd_values, same
from tests.test_carried import moved_worlds
from tests.test_holds import granted
from tests.test_passings import PASSINGS, RING, RING_ROUTES, ROUTES

EXAMPLE = (((0, 1), (2, 1, 3)), ((0, ((0, 0),)), (1, ((1, 1), (0, 1))), (2, ((1, 0),)), (3, ((1, 2),))))


class Model:
    """[66]: a radio hall told a second time, straight from the document."""

    def __init__(self, routes, passings, brains, modulus):
        self.routes, self.passings, self.modulus = routes, passings, modulus
        self.done, self.gone = [0] * len(routes), [False] * len(routes)
        self.told = [set() for _ in routes]
        self.known = [[0] * len(routes) for _ in range(brains)]
        self.bag, self.log = [], []
        for brain in range(brains):
            self.grant(brain)

    def rest(self, visit):
        return visit % self.modulus if self.modulus else visit

    def least(self, told, begin):
        if not self.modulus:
            return told
        return next(visit for visit in range(begin, begin + self.modulus) if visit % self.modulus == told)

    def put(self, letter):
        if letter not in self.bag:
            self.bag.append(letter)

    def grant(self, brain):
        for robot, visit in granted(self.routes, self.passings, self.known[brain]):
            if visit:
                self.put(("hold", robot, self.rest(visit)))

    def may_begin(self, robot):
        after = self.done[robot] + 1
        return not self.gone[robot] and after < len(self.routes[robot]) and after in self.told[robot]

    def hear(self, brain, letter):
        _, robot, told = letter
        facts = self.known[brain]
        visit = self.least(told, facts[robot])
        if visit + 1 < len(self.routes[robot]) and visit >= facts[robot]:
            facts[robot] = visit + 1
            self.grant(brain)

    def take(self, letter):
        _, robot, told = letter
        self.told[robot].add(self.least(told, self.done[robot] + 1))

    def fault(self, word):
        """What a word raises: the error and what it keeps; None if it can be done."""
        name, number = word[0], word[1]
        if name in ("start", "come"):
            if not 0 <= number < len(self.routes):
                return NoRobot, number
            return None if (self.may_begin(number) if name == "start" else self.gone[number]) else (Refused, number)
        if name != "take" and not 0 <= number < len(self.known):
            return InvalidIndex, -1
        if name in ("take", "tell"):
            if not 0 <= word[-1] < len(self.bag):
                return InvalidLetter, -1
            if self.bag[word[-1]][0] != ("hold" if name == "take" else "left"):
                return Refused, "word"
            return (Refused, "down") if name == "tell" and self.known[number] is None else None
        if name == "fall":
            return (Refused, "down") if self.known[number] is None else None
        return (Refused, "up") if self.known[number] is not None else None

    def do(self, word):
        name, number = word[0], word[1]
        if name == "start":
            self.gone[number] = True
            self.log.append(("start", number))
        elif name == "come":
            self.put(("left", number, self.rest(self.done[number])))
            self.gone[number] = False
            self.done[number] += 1
            self.log.append(("come", number))
        elif name == "take":
            self.take(self.bag[number])
        elif name == "tell":
            self.hear(number, self.bag[word[2]])
        elif name == "fall":
            self.known[number] = None
        else:
            self.known[number] = [0] * len(self.routes)
            self.grant(number)

    def sweep(self):
        number = 0
        while number < len(self.bag):
            if self.bag[number][0] == "hold":
                self.take(self.bag[number])
            else:
                for brain, facts in enumerate(self.known):
                    if facts is not None:
                        self.hear(brain, self.bag[number])
            number += 1

    def cells(self, robot):
        return self.routes[robot][self.done[robot]:self.done[robot] + 1 + self.gone[robot]]

    def met(self):
        return min([(cell, one, other) for other in range(len(self.routes)) for one in range(other)
                    for cell in self.cells(one) if cell in self.cells(other)], default=None)

    def seen(self):
        return (tuple(self.done), tuple(self.gone),
                tuple(None if facts is None else tuple(facts) for facts in self.known), tuple(self.bag), tuple(self.log))


def seen(hall):
    return (hall.done, hall.gone, hall.known, hall.bag, hall.log)


def random_word(chance, model):
    name = chance.choice(("start", "come", "start", "come", "take", "take", "tell", "tell", "fall", "rise"))
    if name == "tell":
        return (name, chance.randint(-1 if chance.random() < 0.1 else 0, len(model.known) - 1),
                chance.randint(0, len(model.bag)))
    if name == "take":
        return (name, chance.randint(0, len(model.bag)))
    many = len(model.routes) if name in ("start", "come") else len(model.known)
    return (name, chance.randint(0, many - (chance.random() < 0.95)))


class HallTest(PromiseCase):
    def test_example(self):
        hall = RadioHall(*EXAMPLE)
        self.assertIsNone(hall.sweep_bag())
        self.assertTrue(same(hall.bag, (("hold", 1, 1), ("hold", 1, 2))))
        self.assertEqual((hall.may_begin(0), hall.may_begin(1)), (False, True))

    def test_attributes_at_first(self):
        hall = RadioHall(listed(ROUTES), listed(PASSINGS), 3)
        self.assertTrue(same(seen(hall), ((0, 0), (False, False), ((0, 0),) * 3, (("hold", 0, 1), ("hold", 0, 2), ("hold", 1, 2)),
                                          ())))
        self.tells(None, hall.met_cell)
        self.tells((0,), hall.held_cells, 0)

    def test_words_by_chance(self):
        chance = random.Random(1)
        done, errors = {}, {}
        for routes, passings in moved_worlds(1, 220, moves=9):
            modulus = chance.choice((0, 0, 0, 2, 3, 8))
            brains = chance.randint(1, 4)
            hall, model = RadioHall(routes, passings, brains, modulus), Model(routes, passings, brains, modulus)
            for _ in range(60):
                word = random_word(chance, model)
                fault, before = model.fault(word), seen(hall)
                if fault is not None:
                    self.told(fault[0], fault[1], hall.do_word, word)
                    self.assertEqual(seen(hall), before)
                    errors[(fault[0].__name__, fault[1] if isinstance(fault[1], str) else "")] = True
                elif chance.random() < 0.1:
                    self.assertIsNone(hall.sweep_bag())
                    model.sweep()
                else:
                    self.assertIsNone(hall.do_word(word if chance.random() < 0.5 else list(word)))
                    model.do(word)
                    done[word[0]] = done.get(word[0], 0) + 1
                self.assertTrue(same(seen(hall), model.seen()), (routes, passings, word))
                self.assertTrue(is_tupled(seen(hall)))
                self.tells(model.met(), hall.met_cell)
                for robot in range(len(routes)):
                    self.tells(model.may_begin(robot), hall.may_begin, robot)
                    self.tells(model.cells(robot), hall.held_cells, robot)
                if modulus == 0:
                    # Nobody meets, and the log is one of the plain passings.
                    self.assertIsNone(hall.met_cell())
                    plain = plain_carrying(routes, passings, hall.log)
                    self.assertEqual([plain.visit_of(robot) for robot in range(len(routes))], list(hall.done))
                    self.assertEqual([plain.held_cells(robot) for robot in range(len(routes))],
                                     [hall.held_cells(robot) for robot in range(len(routes))])
                    for letter in hall.bag:
                        self.assertLess(letter[2], len(routes[letter[1]]))
        self.assertTrue(all(done[name] > 100 for name in ("start", "come", "take", "tell", "fall", "rise")), done)
        self.assertEqual(set(errors), {("Refused", ""), ("NoRobot", ""), ("InvalidIndex", ""), ("InvalidLetter", ""),
                                       ("Refused", "word"), ("Refused", "down"), ("Refused", "up")})

    def test_behind_a_sweep_who_may_begin_is_just_who_may_start(self):
        chance = random.Random(2)
        for routes, passings in moved_worlds(2, 120, moves=9):
            hall = RadioHall(routes, passings, 2)
            model = Model(routes, passings, 2, 0)
            for _ in range(40):
                word = random_word(chance, model)
                if model.fault(word) is None:
                    model.do(word)
                    hall.do_word(word)
                if any(facts is not None for facts in hall.known):
                    swept = copy.deepcopy(hall)
                    swept.sweep_bag()
                    self.assertIsNone(swept.met_cell())
                    plain = plain_carrying(routes, passings, swept.log)
                    for robot in range(len(routes)):
                        self.assertEqual(swept.may_begin(robot), plain.may_start(robot))

    def test_in_fair_runs_all_end(self):
        chance = random.Random(3)
        for routes, passings in moved_worlds(3, 80, moves=12):
            hall = RadioHall(routes, passings, chance.randint(1, 3))
            for _ in range(400):
                for robot in range(len(routes)):
                    for word in (("start", robot), ("come", robot)):
                        try:
                            hall.do_word(word)
                        except Refused:
                            pass
                brain = chance.randrange(len(hall.known))
                hall.do_word(("rise" if hall.known[brain] is None else "fall", brain))
                if chance.random() < 0.5:
                    hall.sweep_bag()
                if hall.done == tuple(len(route) - 1 for route in routes):
                    break
            self.assertEqual(hall.done, tuple(len(route) - 1 for route in routes))
            self.assertLessEqual(len(hall.bag), 2 * sum(map(len, routes)))

    def test_all_brains_down(self):
        hall = RadioHall(*EXAMPLE, brains=2)
        hall.do_word(("fall", 0))
        hall.do_word(("fall", 1))
        self.assertEqual(hall.known, (None, None))
        hall.sweep_bag()
        self.assertTrue(hall.may_begin(1))
        for _ in range(2):
            hall.do_word(("start", 1))
            hall.do_word(("come", 1))
            hall.sweep_bag()
        # Robot 0 is let in once a brain is up again, and heard that cell 1 is left.
        self.assertEqual((hall.may_begin(0), hall.bag[-1]), (False, ("left", 1, 1)))
        self.told(Refused, "down", hall.do_word, ("tell", 0, 2))
        hall.do_word(("rise", 1))
        self.assertEqual(hall.known, (None, (0, 0)))
        hall.sweep_bag()
        self.assertEqual((hall.may_begin(0), hall.known, hall.bag[-1]), (True, (None, (0, 2)), ("hold", 0, 1)))

    def test_letters_taken_never_twice_and_in_any_order(self):
        hall = RadioHall(ROUTES, PASSINGS)
        self.told(Refused, 0, hall.do_word, ("start", 0))
        for number in (1, 0, 1, 1):
            hall.do_word(("take", number))
        for word in (("start", 0), ("come", 0), ("start", 0), ("come", 0)):
            hall.do_word(word)
        self.assertEqual(hall.bag[3:], (("left", 0, 0), ("left", 0, 1)))
        for number, facts in ((4, (2, 0)), (3, (2, 0)), (4, (2, 0))):
            hall.do_word(("tell", 0, number))
            self.assertEqual(hall.known, (facts,))
        self.assertEqual(hall.bag[5:], (("hold", 1, 1),))

    def test_a_last_visit_is_never_told(self):
        hall = RadioHall(((0, 1),), ((0, ((0, 0),)), (1, ((0, 1),))))
        hall.do_word(("take", 0))
        hall.do_word(("start", 0))
        hall.do_word(("come", 0))
        self.assertEqual(hall.bag, (("hold", 0, 1), ("left", 0, 0)))
        hall.sweep_bag()
        self.assertEqual((hall.known, hall.may_begin(0)), (((1,),), False))

    def test_words_that_are_none(self):
        hall = RadioHall(*EXAMPLE)
        before = seen(hall)
        for word in odd_values() + [("start",), ("start", 0, 0), ("tell", 0), ("tell", 0, 0, 0), ("fall",), ("deal",), ("hold", 0, 1),
                                    ("take",), ("take", 0, 0), (None, 0), "start", ("sweep", 0)]:
            if word != [["start", 0]]:
                self.told(InvalidScript, -1, hall.do_word, word)
        for value in odd_values() + [2, -1]:
            self.told(NoRobot, value, hall.do_word, ("start", value))
            self.told(NoRobot, value, hall.do_word, ["come", value])
            self.told(NoRobot, value, hall.may_begin, value)
            self.told(NoRobot, value, hall.held_cells, value)
        for value in no_numbers_below(1):
            self.told(InvalidIndex, -1, hall.do_word, ("tell", value, None))
            self.told(InvalidIndex, -1, hall.do_word, ("fall", value))
            self.told(InvalidIndex, -1, hall.do_word, ("rise", value))
        for value in no_numbers_below(2):
            self.told(InvalidLetter, -1, hall.do_word, ("take", value))
            self.told(InvalidLetter, -1, hall.do_word, ("tell", 0, value))
        self.told(Refused, "word", hall.do_word, ("tell", 0, 0))
        self.told(Refused, "up", hall.do_word, ("rise", 0))
        self.assertEqual(seen(hall), before)
        self.assertRaises(TypeError, iter, hall)
        self.assertRaises(TypeError, len, hall)

    def test_halls_that_are_none(self):
        self.told(InvalidRoutes, -1, RadioHall, None, None, None, None)
        self.told(InvalidOrders, 0, RadioHall, ROUTES, (), None, None)
        for brains in no_integers() + [0, -1, 5]:
            self.told(InvalidIndex, 0, RadioHall, ROUTES, PASSINGS, brains, None)
            self.told(InvalidIndex, 0, RadioHall, RING_ROUTES, RING, brains)
        for modulus in no_integers() + [1, -1, -2]:
            self.told(InvalidIndex, 1, RadioHall, ROUTES, PASSINGS, 4, modulus)
            self.told(InvalidIndex, 1, RadioHall, RING_ROUTES, RING, modulus=modulus)
        self.told(Refused, "ring", RadioHall, RING_ROUTES, RING, 4, 2)


class PlainTest(PromiseCase):
    def test_logs(self):
        carrying = plain_carrying(ROUTES, PASSINGS, (("start", 0), ["come", 0], ("start", 0)))
        self.assertIsInstance(carrying, Carrying)
        self.assertEqual((carrying.visit_of(0), carrying.held_cells(0), carrying.held_cells(1)), (1, (1, 2), (3,)))
        self.assertEqual(plain_carrying(ROUTES, PASSINGS, []).visit_of(0), 0)

    def test_step_by_step(self):
        self.told(InvalidRoutes, -1, plain_carrying, None, None, None)
        self.told(InvalidOrders, -1, plain_carrying, ROUTES, None, None)
        for value in no_sequences():
            self.told(InvalidScript, -1, plain_carrying, ROUTES, PASSINGS, value)
        for value in odd_values() + [("start",), ("start", 0, 0), ("take", 0), (0, "start")]:
            if value != ["start", 0]:
                self.told(InvalidScript, 1, plain_carrying, ROUTES, PASSINGS, (("start", 0), value, None))
        for value in odd_values() + [2, -1]:
            self.told(NoRobot, value, plain_carrying, ROUTES, PASSINGS, (("start", 0), ("come", value), None))
        self.told(Refused, 1, plain_carrying, ROUTES, PASSINGS, (("start", 1), None))
        self.told(Refused, 0, plain_carrying, ROUTES, PASSINGS, (("start", 0), ("come", 0), ("come", 0), None))


class RoundTest(PromiseCase):
    def test_with_a_modulus_they_meet(self):
        for modulus in (2, 3, 4, 7, 8, 13):
            routes, passings, words = round_meeting(modulus)
            self.assertTrue(is_tupled((routes, passings, words)))
            self.assertEqual((len(routes), words[-1][0]), (2, "start"))
            self.assertEqual(need_passings(routes, passings), passings)
            self.assertEqual(passing_paper(routes, passings)[0], "live")
            hall = RadioHall(routes, passings, modulus=modulus)
            for word in words:
                self.assertIsNone(hall.met_cell())
                hall.do_word(word)
            self.assertIsNotNone(hall.met_cell())
            plain, refused = RadioHall(routes, passings), 0
            for word in words:
                try:
                    plain.do_word(word)
                except HallError as error:
                    self.assertIsInstance(error, Refused)
                    refused += 1
                self.assertIsNone(plain.met_cell())
            self.assertGreater(refused, 0)

    def test_a_modulus_greater_than_any_visit(self):
        # By it visits are told as they are, so nobody meets.
        routes, passings, words = round_meeting(4)
        hall = RadioHall(routes, passings, 1, 100)
        for word in words[:-1]:
            hall.do_word(word)
        self.told(Refused, 0, hall.do_word, words[-1])

    def test_the_first_of_several_that_meet(self):
        self.assertEqual(first_met([(3,), (1, 2), (2, 3)]), (2, 1, 2))
        self.assertEqual(first_met([(3, 4), (4, 3), (3,)]), (3, 0, 1))
        self.assertEqual(first_met([(9,), (1, 9), (), (1,)]), (1, 1, 3))
        self.assertIsNone(first_met([(3, 4), (), (5,)]))

    def test_wrong_moduli(self):
        for modulus in no_integers() + [1, 0, -1, -2]:
            self.told(InvalidIndex, 1, round_meeting, modulus)


if __name__ == "__main__":
    unittest.main()
