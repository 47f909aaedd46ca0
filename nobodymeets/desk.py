"""A desk at which a house by hand is told what to do in words, and shows what is."""

from nobodymeets.errors import InvalidCommand, Refused
from nobodymeets.halls import read_drawing
from nobodymeets.live import Live
from nobodymeets.pictures import hall_picture

DIGITS = "0123456789"
MOST_FIGURES = 4
MOST_ROUNDS = 99
ROBOT_WORDS = ("start", "come", "break", "fetch", "put")
LONE_COMMANDS = ("words", "undo", "redo", "picture")
NUMBER_COMMANDS = ("back", "waits", "left", "why", "go")
NOTHING = "none"


class Desk:
    """A desk; there is nothing to be shown before the first hall."""

    def __init__(self):
        self.live = None

    def say(self, command):
        """Does what a string says, and returns what is shown."""
        parts = need_parts(command)
        if parts[0] == "hall":
            return self._show_hall(parts[1], parts[2:])
        if self.live is None:
            raise InvalidCommand()
        if parts[0] in LONE_COMMANDS:
            return shown_alone(self.live, parts[0])
        if parts[0] in NUMBER_COMMANDS:
            return shown_by_number(self.live, parts[0], parts[1])
        if parts[0] == "what":
            many, places = self.live.told_if(parts[1], word_of(parts[2:]))
            return str(many) + "\n" + picture_of(self.live.hall, places)
        return line_of(self.live.do_word(word_of(parts)))

    def _show_hall(self, rows, homes):
        live = Live(read_drawing(rows.replace("/", "\n")), homes)
        shown = picture_of(live.hall, live.all_places())
        self.live = live
        return shown


def need_parts(command):
    """Any value as a command: its words, numbers in the place of their figures."""
    if not isinstance(command, str):
        raise InvalidCommand()
    words = command.split(" ")
    if words[0] == "hall" and len(words) > 2:
        return ["hall", words[1]] + need_numbers(words[2:])
    parts = words[:1] + need_numbers(words[1:2])
    if words[0] == "what" and len(words) > 2:
        return parts + need_word(words[2:])
    if words[0] in LONE_COMMANDS and len(words) == 1:
        return words
    if words[0] in NUMBER_COMMANDS and len(words) == 2 and (words[0] != "go" or parts[1] <= MOST_ROUNDS):
        return parts
    return need_word(words)


def need_word(words):
    """A command's words as a word of the house: its name, then numbers."""
    parts = words[:1] + need_numbers(words[1:])
    if parts == ["deal"] or (parts[0] == "errand" and len(parts) > 1):
        return parts
    if parts[0] not in ROBOT_WORDS or len(parts) != 2:
        raise InvalidCommand()
    return parts


def need_numbers(words):
    """Numbers told by up to four figures, no noughts ahead."""
    if not all([is_figures(word) for word in words]):
        raise InvalidCommand()
    return [int(word) for word in words]


def is_figures(word):
    """Whether a word is a number of up to four figures with no noughts ahead."""
    if not 1 <= len(word) <= MOST_FIGURES or not all([sign in DIGITS for sign in word]):
        return False
    return word == "0" or word[0] != "0"


def word_of(parts):
    """A word of the house."""
    if parts[0] == "errand":
        return ("errand", tuple(parts[1:]))
    return tuple(parts)


def picture_of(hall, places):
    """The picture of a hall with robots in their places, none loaded."""
    return hall_picture(hall, [(place, False) for place in places])


def line_of(parts):
    """Parts, and those of what is in them, parted by blanks."""
    words = []
    for part in parts:
        words.append(line_of(part) if isinstance(part, tuple) else str(part))
    return " ".join(words)


def shown_alone(live, name):
    """What a command without numbers shows."""
    if name == "words":
        return NOTHING if len(live.words) == 0 else "\n".join([line_of(word) for word in live.words])
    if name == "undo":
        return "yes" if live.undo_word() else "no"
    if name == "redo":
        return "yes" if live.redo_word() else "no"
    return picture_of(live.hall, live.all_places())


def shown_by_number(live, name, number):
    """What a command with a number shows."""
    if name == "back":
        return picture_of(live.hall, live.places_at(number))
    if name == "waits":
        return line_of(live.wait_chain(number))
    if name == "left":
        left = live.house.moves_left(number)
        return "waits" if left is None else str(left)
    if name == "why":
        robots = live.house.barred_by(number)
        return NOTHING if len(robots) == 0 else line_of(robots)
    go_rounds(live, number)
    return picture_of(live.hall, live.all_places())


def go_rounds(live, many):
    """Goes up to so many rounds, or to the first in which nobody does anything."""
    for _ in range(many):
        is_idle = True
        for robot in range(len(live.homes)):
            if do_step(live, robot):
                is_idle = False
        if is_idle:
            return


def do_step(live, robot):
    """Lets a robot start if it can, else come if it can; whether it did."""
    if live.house.can_start(robot):
        live.do_word(("start", robot))
        return True
    try:
        live.do_word(("come", robot))
    except Refused:
        return False
    return True
