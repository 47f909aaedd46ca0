"""[75]: a house by hand."""

import random
import unittest

from nobodymeets import errors
from nobodymeets.errors import InvalidHall, InvalidIndex, InvalidRobots, InvalidScript, NoRobot, Refused
from nobodymeets.halls import read_drawing
from nobodymeets.house import House
from nobodymeets.live import Live
from tests.helpers import PromiseCase, is_below, is_int, is_tupled, listed, odd_values, same
from tests.house_model import HouseModel, any_word

SQUARE = "P.H\nP.."
WORDS = (("errand", (2,)), ("deal",), ("start", 0), ("come", 0))
DRAWINGS = ((SQUARE, (0, 3)), ("P.P\n.H.\nP.S", (6, 0, 2)), ("P.H.P\n.....\nS.P.C", (4, 0, 12)), ("P.H", (0,)),
            ("PPP.H\n.....\nPPPS.", (0, 1, 2, 10, 11, 12)), ("P>.H\n#^#v\nPS<.", (0, 6)))


def lived(*words, drawing=SQUARE, homes=(0, 3)):
    """A house by hand in which words were done."""
    live = Live(read_drawing(drawing), homes)
    for word in words:
        live.do_word(word)
    return live


def model_of(hall, homes, words):
    model = HouseModel(hall, homes)
    for word in words:
        model.do_word(word)
    return model


def places(model):
    return tuple(model.place(robot) for robot in range(len(model.robots)))


def look(live):
    return (live.words, live.all_places(), live.house.words, live.homes,
            [live.wait_chain(robot) for robot in range(len(live.homes))])


class LiveTest(PromiseCase):
    def test_example(self):
        live = Live(read_drawing(SQUARE), [0, 3])
        told = [live.do_word(word) for word in (("errand", [2]), ("deal",), ("start", 0), ("come", 0))]
        self.assertEqual((told[-1], live.all_places()), (("come",), ((1,), (3,))))
        self.assertEqual(live.told_if(2, ("break", 0)), (3, ((0,), (3,))))
        self.assertEqual((live.places_at(0), live.undo_word(), live.all_places()), (((0,), (3,)), True, ((0, 1), (3,))))

    def test_at_first(self):
        hall = read_drawing(SQUARE)
        live = Live(hall, [3, 0])
        self.assertIs(live.hall, hall)
        self.assertTrue(same((live.homes, live.words), ((3, 0), ())))
        self.assertIsInstance(live.house, House)
        self.assertTrue(same(live.all_places(), ((3,), (0,))))
        self.holds_just_if(False, live.undo_word)
        self.holds_just_if(False, live.redo_word)
        self.tells(((3,), (0,)), live.places_at, 0)
        self.told(InvalidIndex, -1, live.places_at, 1)
        self.told(InvalidIndex, -1, live.told_if, 0, ("deal",))

    def test_wrong_halls_and_homes(self):
        hall = read_drawing(SQUARE)
        for homes, at in ((None, -1), ((), -1), ((1,), 0), ((0, 0), 1), ((0, 3, True), 2), ((0,) * 7, -1)):
            self.told(InvalidRobots, at, Live, hall, homes)
        for value in odd_values():
            if type(value).__name__ != "Hall":
                self.told(InvalidHall, -1, Live, value, None)

    def test_words_are_told_as_a_house_tells_them(self):
        live, house = lived(), House(read_drawing(SQUARE), (0, 3))
        for word in (["errand", [2]], ("deal",), ("deal",), ("start", 0), ("break", 0), ["fetch", 0], ("put", 0)):
            self.assertTrue(same(live.do_word(word), house.do_word(word)))
            self.assertTrue(same(live.words, house.words) and is_tupled(live.words))
            self.assertIs(type(live.house), House)

    def test_words_that_are_refused_change_nothing(self):
        live = lived(*WORDS)
        live.undo_word()
        before = look(live)
        for word, error, kept in ((("start", 0), Refused, 0), (("come", 1), Refused, 1), (("start", 2), NoRobot, 2),
                                  (("errand", (1,)), InvalidScript, -1), (None, InvalidScript, -1), ((), InvalidScript, -1),
                                  (("fall",), InvalidScript, -1), (("put", True), NoRobot, True)):
            self.told(error, kept, live.do_word, word)
            self.assertEqual(look(live), before)
        # What was taken back can still be done again.
        self.holds_just_if(True, live.redo_word)
        self.assertEqual(live.words, WORDS)

    def test_words_undone_and_done_anew(self):
        live = lived(*WORDS)
        for number in (3, 2, 1, 0):
            self.holds_just_if(True, live.undo_word)
            self.assertEqual(live.words, WORDS[:number])
            self.assertEqual(live.house.words, WORDS[:number])
        self.holds_just_if(False, live.undo_word)
        for number in (1, 2, 3, 4):
            self.holds_just_if(True, live.redo_word)
            self.assertEqual(live.words, WORDS[:number])
        self.holds_just_if(False, live.redo_word)
        self.assertTrue(same(live.all_places(), ((1,), (3,))))

    def test_a_new_word_leaves_nothing_to_be_done_again(self):
        live = lived(*WORDS)
        live.undo_word()
        live.undo_word()
        live.do_word(("break", 0))
        self.holds_just_if(False, live.redo_word)
        self.assertEqual(live.words, WORDS[:2] + (("break", 0),))
        live.undo_word()
        self.holds_just_if(True, live.redo_word)
        self.assertEqual(live.words, WORDS[:2] + (("break", 0),))
        self.holds_just_if(False, live.redo_word)

    def test_moments(self):
        live = lived(*WORDS)
        for number, told in enumerate((((0,), (3,)),) * 3 + (((0, 1), (3,)), ((1,), (3,)))):
            self.tells(told, live.places_at, number)
        for number in odd_values() + [5, -1, True]:
            if not is_below(number, 5):
                self.told(InvalidIndex, -1, live.places_at, number)
        self.assertEqual(live.words, WORDS)

    def test_what_would_be(self):
        live = lived(*WORDS)
        before = look(live)
        for number, word, expected in (
                (2, ("break", 0), (3, ((0,), (3,)))), (0, ("deal",), (2, ((0,), (3,)))), (3, ("come", 0), (4, ((1,), (3,)))),
                (3, ("break", 0), (4, ((0, 1), (3,)))), (2, None, (2, ((0,), (3,)))), (0, (), (0, ((0,), (3,)))),
                (3, ("start", 7), (3, ((0, 1), (3,)))), (1, ("break", 0), (2, ((0,), (3,)))),
                (0, ["errand", [2, 5, 2]], (0, ((0,), (3,)))), (3, ["errand", [2]], (4, ((0, 1), (3,)))),
                (2, ("fall",), (2, ((0,), (3,))))):
            self.tells(expected, live.told_if, number, word)
            self.assertEqual(look(live), before)
        for value in odd_values():
            self.assertEqual(live.told_if(1, value)[0], 1)
            if not is_below(value, 4):
                self.told(InvalidIndex, -1, live.told_if, value, ("deal",))
        for number in (4, -1, True):
            self.told(InvalidIndex, -1, live.told_if, number, None)

    def test_what_would_be_of_words_taken_back(self):
        live = lived(*WORDS)
        live.undo_word()
        self.told(InvalidIndex, -1, live.told_if, 3, ("come", 0))
        self.tells((3, ((0,), (3,))), live.told_if, 2, ("break", 1))
        self.holds_just_if(True, live.redo_word)

    def test_waits_in_a_chain(self):
        drawing = "PPP\n...\nH.S"
        live = lived(*[("errand", (6,)), ("deal",)] * 3, drawing=drawing, homes=(0, 1, 2))
        self.assertEqual([live.wait_chain(robot) for robot in range(3)], [(0,), (1,), (2,)])
        for word in (("start", 1), ("come", 1), ("start", 2), ("come", 2)):
            live.do_word(word)
        self.assertEqual([live.all_places()[robot] for robot in range(3)], [(0,), (4,), (5,)])
        self.assertEqual([live.wait_chain(robot) for robot in range(3)], [(0,), (1, 0), (2, 1, 0)])
        live.do_word(("break", 1))
        self.assertEqual([live.wait_chain(robot) for robot in range(3)], [(0,), (1, 0), (2, 1, 0)])
        live.do_word(("fetch", 1))
        self.assertEqual([live.wait_chain(robot) for robot in range(3)], [(0,), (1,), (2,)])
        live.do_word(("start", 0))
        self.assertEqual([live.wait_chain(robot) for robot in range(3)], [(0,), (1,), (2,)])

    def test_no_robots(self):
        live = lived(*WORDS)
        for robot in odd_values() + [2, -1, True]:
            if not is_below(robot, 2):
                self.told(NoRobot, robot, live.wait_chain, robot)

    def test_arguments_by_name(self):
        live = Live(hall=read_drawing(SQUARE), homes=(0, 3))
        for word in WORDS:
            live.do_word(word=word)
        self.assertEqual((live.places_at(number=3), live.told_if(number=2, word=("deal",)), live.wait_chain(robot=1)),
                         (((0, 1), (3,)), (3, ((0,), (3,))), (1,)))

    def test_later_changes_have_no_effect(self):
        homes, goals = [0, 3], [2]
        live = Live(read_drawing(SQUARE), homes)
        word = ["errand", goals]
        live.do_word(word)
        homes[0], goals[0], word[0] = 3, 0, "deal"
        self.assertTrue(same((live.homes, live.words), ((0, 3), (("errand", (2,)),))))
        self.tells(((0,), (3,)), live.places_at, 0)

    def test_objects_are_not_iterable(self):
        for call in (iter, len):
            self.assertRaises(TypeError, call, lived())


class AnyHandsTest(PromiseCase):
    def test_any_words_and_hands(self):
        for seed, (drawing, homes) in enumerate(DRAWINGS):
            for again in range(3):
                self.run_live(random.Random(100 * seed + again), read_drawing(drawing), homes)

    def run_live(self, chance, hall, homes):
        live, words, back = Live(hall, listed(homes)), [], []
        for _ in range(90):
            model = model_of(hall, homes, words)
            kind = chance.randrange(12)
            if kind == 0:
                self.holds_just_if(len(words) > 0, live.undo_word)
                if words:
                    back.append(words.pop())
            elif kind == 1:
                self.holds_just_if(len(back) > 0, live.redo_word)
                if back:
                    words.append(back.pop())
            else:
                word = any_word(chance, hall, homes, model)
                wrong = model.error_of(word)
                if wrong is None:
                    self.tells(model.do_word(word), live.do_word, word)
                    words.append(word)
                    back = []
                else:
                    self.told(getattr(errors, wrong[0]), wrong[1], live.do_word, word)
            self.check_seen(chance, live, hall, homes, words)

    def check_seen(self, chance, live, hall, homes, words):
        model = model_of(hall, homes, words)
        self.assertEqual(listed(live.words), listed(words))
        self.assertEqual(live.house.words, live.words)
        self.assertTrue(same(live.all_places(), places(model)))
        number = chance.randint(0, len(words))
        self.tells(places(model_of(hall, homes, words[:number])), live.places_at, number)
        for robot in range(len(homes)):
            self.check_chain(live, model, robot)
        if number < len(words):
            self.check_if(chance, live, hall, homes, words, number)

    def check_chain(self, live, model, robot):
        chain = live.wait_chain(robot)
        self.assertTrue(isinstance(chain, tuple) and chain[0] == robot and len(set(chain)) == len(chain))
        for one, other in zip(chain, chain[1:]):
            self.assertEqual(model.waits_on(one), other)
        last = chain[-1]
        self.assertIsNone(model.waits_on(last))
        state = model.robots[last]
        self.assertTrue(model.can_start(last) or state.between or state.broken or len(chain) == 1)

    def check_if(self, chance, live, hall, homes, words, number):
        model = model_of(hall, homes, words[:number])
        word = any_word(chance, hall, homes, model)
        done = 0
        for other in [word] + words[number + 1:]:
            if model.error_of(other) is not None:
                break
            model.do_word(other)
            done += 1
        self.tells((number + done, places(model)), live.told_if, number, word)
        self.assertTrue(is_int(done))


if __name__ == "__main__":
    unittest.main()
