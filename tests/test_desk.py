"""[76]: the desk."""

import random
import unittest

from nobodymeets import errors
from nobodymeets.desk import Desk
from nobodymeets.errors import (HallError, InvalidCommand, InvalidIndex, InvalidRobots, InvalidScript, InvalidText, NoRobot,
                                Refused)
from nobodymeets.halls import read_drawing
from nobodymeets.live import Live
from nobodymeets.pictures import hall_picture, read_picture
from tests.helpers import PromiseCase, odd_values
from tests.house_model import HouseModel

SQUARE = "hall P.H/P.. 0 3"
ROBOT_WORDS = ("start", "come", "break", "fetch", "put")
DESKS = ((SQUARE, (0, 3)), ("hall P.P/.H./P.S 6 0 2", (6, 0, 2)), ("hall P.H/.../S.P 8 0", (8, 0)), ("hall PHS 0", (0,)))


def said(*lines):
    """A desk at which lines were said, and what the last one showed."""
    desk = Desk()
    shown = None
    for line in lines:
        shown = desk.say(line)
    return desk, shown


def picture(rows, places):
    return hall_picture(read_drawing(rows.replace("/", "\n")), [(place, False) for place in places])


class DeskTest(PromiseCase):
    def test_example(self):
        desk = Desk()
        shown = [desk.say(line) for line in (SQUARE, "errand 2", "deal", "go 3")]
        self.assertEqual(shown[1:], ["waits 0", "errand 0 0", "P  .a>Ha*\nPb .  .  "])

    def test_before_the_first_hall(self):
        desk = Desk()
        self.assertIsNone(desk.live)
        for command in ("deal", "errand 2", "start 0", "words", "undo", "redo", "picture", "back 0", "what 0 deal", "waits 0",
                        "left 0", "why 0", "go 0", "", "hall", "hall P.H"):
            self.told_command(desk, command)
        for command, error, kept in (("hall P.X 0", InvalidText, 2), ("hall P.H 1", InvalidRobots, 0), ("hall  0", InvalidText, 0),
                                     ("hall P.H 0 0", InvalidRobots, 1), ("hall PPPPPPP 0 1 2 3 4 5 6", InvalidRobots, -1)):
            self.told(error, kept, desk.say, command)
            self.assertIsNone(desk.live)

    def told_command(self, desk, command):
        """That a command has no form, and changes nothing."""
        before = None if desk.live is None else desk.live.words
        with self.assertRaises(InvalidCommand, msg=command) as caught:
            desk.say(command)
        self.assertEqual(vars(caught.exception), {})
        self.assertEqual(None if desk.live is None else desk.live.words, before)

    def test_a_hall(self):
        desk, shown = said(SQUARE)
        self.assertEqual(shown, "Pa .  H  \nPb .  .  ")
        self.assertIsInstance(desk.live, Live)
        self.assertEqual((desk.live.homes, desk.live.words, desk.live.hall), ((0, 3), (), read_drawing("P.H\nP..")))
        desk, shown = said(SQUARE, "errand 2", "hall P.S 0")
        self.assertEqual((shown, desk.live.homes, desk.live.words), ("Pa .  S  ", (0,), ()))
        # A newline is no blank; a sign that leads nowhere is shown as the first one that does.
        desk, shown = said("hall #P/.>\nvH 0")
        self.assertEqual(shown, "###Pa \n.  >  \n<  H  ")

    def test_a_wrong_hall_leaves_the_one_before(self):
        desk, _ = said(SQUARE, "errand 2")
        live = desk.live
        for command, error, kept in (("hall P.X 0", InvalidText, 2), ("hall P.H 2", InvalidRobots, 0),
                                     ("hall P.H/P. 0", InvalidText, 4)):
            self.told(error, kept, desk.say, command)
            self.assertIs(desk.live, live)
        self.assertEqual(live.words, (("errand", (2,)),))

    def test_what_has_no_form(self):
        desk, _ = said(SQUARE, "errand 2", "deal")
        for command in ("", " ", "Deal", "deal ", " deal", "deal 0", "errand", "errand ", "errand  2", "errand x", "errand 02",
                        "errand -2", "errand 2 ", "errand +2", "errand 2,2", "errand 10000", "start", "start 0 0", "start 00",
                        "start a", "come 1.0", "put", "words 0", "undo 1", "redo 1", "picture 0", "back", "back 0 0",
                        "back -1", "what", "what 0", "what deal", "what 0 words", "what 0 hall P.H 0", "what 0 errand",
                        "what 0 start", "what 0 deal 0", "what 00 deal", "what 0  deal", "waits", "left", "why", "left x",
                        "go", "go 100", "go 9999", "go 07", "go -1", "hall", "hall P.H", "hall P.H ", "hall P.H x",
                        "hall P.H 00", "hall P.H 0 ", "hall P.H\n0", "fall", "take 0", "none", "errand\n2", "start \t0",
                        "start \u0660", "start \u00b2", "what 0 go 1", "what 0 what 0 deal", "lose 0", "say"):
            self.told_command(desk, command)
        for value in odd_values():
            if not isinstance(value, str):
                self.told_command(desk, value)
                self.told_command(Desk(), value)

    def test_words_that_a_house_refuses(self):
        desk, _ = said(SQUARE, "errand 2")
        for command, error, kept in (("start 0", Refused, 0), ("come 1", Refused, 1), ("fetch 0", Refused, 0),
                                     ("put 1", Refused, 1), ("start 2", NoRobot, 2), ("break 9999", NoRobot, 9999),
                                     ("errand 0", InvalidScript, -1), ("errand 2 2", InvalidScript, -1),
                                     ("errand 2 9999", InvalidScript, -1), ("errand 2 2 2 2 2 2 2", InvalidScript, -1),
                                     ("back 2", InvalidIndex, -1), ("what 1 deal", InvalidIndex, -1), ("waits 2", NoRobot, 2),
                                     ("left 1", InvalidIndex, -1), ("why 1", InvalidIndex, -1)):
            self.told(error, kept, desk.say, command)
            self.assertEqual(desk.live.words, (("errand", (2,)),))

    def test_what_is_told(self):
        desk, _ = said(SQUARE)
        for command, shown in (("deal", "none"), ("words", "deal"), ("errand 2", "waits 0"), ("errand 2", "waits 1"),
                               ("left 0", "waits"), ("why 0", "none"), ("deal", "errand 0 0"), ("deal", "errand 1 1"),
                               ("left 0", "2"), ("left 1", "7"), ("start 0", "start"), ("break 0", "break"), ("why 0", "0"),
                               ("why 1", "0"), ("waits 1", "1"), ("start 1", "start"), ("come 1", "come"), ("waits 1", "1 0"),
                               ("fetch 0", "fetch 0"), ("left 0", "waits"), ("put 0", "put"), ("waits 0", "0"),
                               ("picture", "Pa .  H  \nP  .b .  ")):
            self.assertEqual(desk.say(command), shown, command)

    def test_cuts_and_more_than_one_broken_robot(self):
        self.assertEqual(said("hall P.H#S 0", "errand 3", "deal")[1], "cut 0 0 3 0 1")
        self.assertEqual(said("hall P#S 0", "errand 1", "deal")[1], "cut 0 0 1 0")
        desk, _ = said("hall PPP/.../H.S 0 1 2", "errand 6", "deal", "errand 6", "deal", "errand 6", "deal", "break 0",
                       "break 1", "errand 6 8 6", "left 2", "why 2")
        self.assertEqual(desk.say("why 2"), "0 1")
        self.assertEqual(desk.say("fetch 1"), "fetch 1")
        self.assertEqual(desk.say("words").split("\n")[-2:], ["errand 6 8 6", "fetch 1"])

    def test_words(self):
        desk, shown = said(SQUARE, "words")
        self.assertEqual(shown, "none")
        for line in ("errand 2", "deal", "start 0", "come 0"):
            desk.say(line)
        self.assertEqual(desk.say("words"), "errand 2\ndeal\nstart 0\ncome 0")

    def test_undo_and_redo(self):
        desk, _ = said(SQUARE, "errand 2", "deal")
        self.assertEqual([desk.say(line) for line in ("redo", "undo", "undo", "undo", "words", "redo", "words", "redo", "redo")],
                         ["no", "yes", "yes", "no", "none", "yes", "errand 2", "yes", "no"])
        desk.say("undo")
        desk.say("break 0")
        self.assertEqual((desk.say("redo"), desk.say("words")), ("no", "errand 2\nbreak 0"))

    def test_pictures_and_moments(self):
        desk, _ = said(SQUARE, "errand 2", "deal", "start 0", "come 0", "break 1", "fetch 1")
        self.assertEqual(desk.say("picture"), "P  .a H  \nP  .  .  ")
        self.assertEqual([desk.say(f"back {number}") for number in (0, 3, 4, 6)],
                         ["Pa .  H  \nPb .  .  ", "Pa>.a*H  \nPb .  .  ", "P  .a H  \nPb .  .  ", "P  .a H  \nP  .  .  "])
        self.assertEqual(read_picture(desk.say("back 3"))[1], (((0, 1), False), ((3,), False)))

    def test_what_would_be(self):
        desk, _ = said(SQUARE, "errand 2", "deal", "start 0", "come 0")
        self.assertEqual(desk.say("what 2 break 0"), "3\nPa .  H  \nPb .  .  ")
        self.assertEqual(desk.say("what 3 break 1"), "4\nPa>.a*H  \nPb .  .  ")
        self.assertEqual(desk.say("what 0 deal"), "2\nPa .  H  \nPb .  .  ")
        self.assertEqual(desk.say("what 0 errand 2 2"), "0\nPa .  H  \nPb .  .  ")
        self.assertEqual(desk.say("what 3 start 9"), "3\nPa>.a*H  \nPb .  .  ")
        self.assertEqual(desk.say("words"), "errand 2\ndeal\nstart 0\ncome 0")

    def test_rounds(self):
        desk, shown = said(SQUARE, "errand 2", "deal", "errand 2", "deal", "go 0")
        self.assertEqual(shown, "Pa .  H  \nPb .  .  ")
        self.assertEqual(desk.say("go 1"), "Pa>.a*H  \nPb>.b*.  ")
        self.assertEqual(desk.live.words[-2:], (("start", 0), ("start", 1)))
        self.assertEqual(desk.say("go 1"), "P  .a H  \nP  .b .  ")
        self.assertEqual(desk.live.words[-2:], (("come", 0), ("come", 1)))
        self.assertEqual(desk.say("go 1"), "P  .a>Ha*\nP  .b .  ")
        self.assertEqual(desk.live.words[-1:], (("start", 0),))
        # Up to the first idle round; what was done is done word by word.
        self.assertEqual(desk.say("go 99"), "Pa .  H  \nPb .  .  ")
        many = len(desk.live.words)
        self.assertEqual(desk.say("go 99"), "Pa .  H  \nPb .  .  ")
        self.assertEqual((len(desk.live.words), desk.say("left 0"), desk.say("left 1")), (many, "0", "0"))
        desk.say("undo")
        self.assertEqual(len(desk.live.words), many - 1)

    def test_broken_robots_do_nothing_in_rounds(self):
        desk, _ = said(SQUARE, "errand 2", "deal", "start 0", "break 0", "go 9")
        self.assertEqual(desk.live.words[-1], ("break", 0))
        self.assertEqual(desk.say("picture"), "Pa>.a*H  \nPb .  .  ")

    def test_commands_by_name(self):
        desk = Desk()
        self.assertEqual(desk.say(command="hall P 0"), "Pa ")
        self.assertRaises(TypeError, iter, desk)
        self.assertRaises(TypeError, len, desk)


class AnyDeskTest(PromiseCase):
    """Any commands, held against a house told straight from the document."""

    def test_any_commands(self):
        for seed in range(24):
            self.run_desk(random.Random(seed), *DESKS[seed % len(DESKS)])

    def run_desk(self, chance, hall_line, homes):
        rows = hall_line.split(" ")[1]
        hall = read_drawing(rows.replace("/", "\n"))
        ends = [cell for cell, kind in hall.marks if kind != "park"]
        desk, _ = said(hall_line)
        words, back = [], []
        for _ in range(60):
            model = self.model_of(hall, homes, words)
            word = self.any_word(chance, ends, len(homes))
            line = self.line_of(word)
            kind = chance.randrange(12)
            if kind == 0:
                self.assertEqual(desk.say("undo"), "yes" if words else "no")
                if words:
                    back.append(words.pop())
            elif kind == 1:
                self.assertEqual(desk.say("redo"), "yes" if back else "no")
                if back:
                    words.append(back.pop())
            elif kind == 2:
                many = chance.randint(0, 3)
                added = self.rounds(model, many)
                self.assertEqual(desk.say(f"go {many}"), self.picture_of(rows, model))
                words.extend(added)
                back = back if not added else []
            elif kind == 3 and words:
                self.check_what(chance, desk, hall, homes, rows, words, word, line)
            elif model.error_of(word) is None:
                self.assertEqual(desk.say(line), self.line_of(model.do_word(word)))
                words.append(word)
                back = []
            else:
                name, kept = model.error_of(word)
                self.told(getattr(errors, name), kept, desk.say, line)
            self.check_shown(chance, desk, hall, homes, rows, words)

    def any_word(self, chance, ends, robots):
        kind = chance.randrange(8)
        if kind == 0:
            return ("errand", tuple(chance.choice(ends) for _ in range(chance.randint(1, 2))))
        if kind < 3:
            return ("deal",)
        return (chance.choice(ROBOT_WORDS + ("start", "come") * 2), chance.randrange(robots + (kind == 3)))

    def line_of(self, parts):
        """Parts, and parts of parts, parted by blanks."""
        return " ".join(self.line_of(part) if isinstance(part, tuple) else str(part) for part in parts)

    def model_of(self, hall, homes, words):
        model = HouseModel(hall, homes)
        for word in words:
            model.do_word(word)
        return model

    def rounds(self, model, many):
        """The words of so many rounds, or up to the first idle one."""
        added = []
        for _ in range(many):
            before = len(added)
            for robot in range(len(model.robots)):
                for name in ("start", "come"):
                    if model.may(name, robot):
                        model.do_word((name, robot))
                        added.append((name, robot))
                        break
            if len(added) == before:
                break
        return added

    def picture_of(self, rows, model):
        return picture(rows, [model.place(robot) for robot in range(len(model.robots))])

    def check_what(self, chance, desk, hall, homes, rows, words, word, line):
        number = chance.randrange(len(words))
        model = self.model_of(hall, homes, words[:number])
        many = number
        for other in [word] + words[number + 1:]:
            if model.error_of(other) is not None:
                break
            model.do_word(other)
            many += 1
        self.assertEqual(desk.say(f"what {number} {line}"), f"{many}\n{self.picture_of(rows, model)}")

    def check_shown(self, chance, desk, hall, homes, rows, words):
        model = self.model_of(hall, homes, words)
        self.assertEqual(desk.say("words"), "\n".join(self.line_of(word) for word in words) or "none")
        self.assertEqual(desk.say("picture"), self.picture_of(rows, model))
        number = chance.randint(0, len(words))
        self.assertEqual(desk.say(f"back {number}"), self.picture_of(rows, self.model_of(hall, homes, words[:number])))
        for errand in range(len(model.errands)):
            left = model.moves_left(errand)
            self.assertEqual(desk.say(f"left {errand}"), "waits" if left is None else str(left))
            self.assertEqual(desk.say(f"why {errand}"), " ".join(map(str, model.barred_by(errand))) or "none")
        for robot in range(len(homes)):
            chain = [robot]
            while model.waits_on(chain[-1]) is not None:
                chain.append(model.waits_on(chain[-1]))
            self.assertEqual(desk.say(f"waits {robot}"), " ".join(map(str, chain)))

    def test_errors_are_of_the_package(self):
        self.assertTrue(issubclass(InvalidCommand, HallError))


if __name__ == "__main__":
    unittest.main()
