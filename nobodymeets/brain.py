"""Robots that are told by radio where to go: brains that know of them by letters alone, and plain passings beside."""

from nobodymeets.basics import is_count, is_index, is_number, is_sequence
from nobodymeets.carried import Carrying, need_robot
from nobodymeets.errors import InvalidIndex, InvalidLetter, InvalidScript, Refused
from nobodymeets.holds import granted_by, with_left
from nobodymeets.letters import next_like, told_visit
from nobodymeets.passings import need_both, paper_of

MOST_BRAINS = 4
# The words of a hall, and how many things each has with it.
WORDS = {"start": 2, "come": 2, "take": 2, "tell": 3, "fall": 2, "rise": 2}


class RadioHall:
    """Robots that start just if they stand and were told their next visit, and brains that tell them, word by word."""

    def __init__(self, routes, passings, brains=1, modulus=0):
        self._both = need_both(routes, passings)
        need_brains(brains)
        if not is_number(modulus) or modulus == 1:
            raise InvalidIndex(1)
        if paper_of(self._both)[0] != "live":
            raise Refused("ring")
        robots = len(self._both[0])
        self._modulus = modulus
        self._was_told = [{} for _ in range(robots)]
        self.done = (0,) * robots
        self.gone = (False,) * robots
        self.known = ((0,) * robots,) * brains
        self.bag = ()
        self.log = ()
        for brain in range(brains):
            self._put_holds(brain)

    def may_begin(self, robot):
        """Whether a robot stands, and was told its next visit."""
        need_robot(self._both[0], robot)
        visit = self.done[robot] + 1
        if self.gone[robot] or visit == len(self._both[0][robot]):
            return False
        return visit in self._was_told[robot]

    def held_cells(self, robot):
        """The cells in which a robot is, by its way."""
        need_robot(self._both[0], robot)
        many = 2 if self.gone[robot] else 1
        return self._both[0][robot][self.done[robot]:self.done[robot] + many]

    def met_cell(self):
        """The first (cell, robot, robot) such that both are in it, or None."""
        return first_met([self.held_cells(robot) for robot in range(len(self.done))])

    def do_word(self, word):
        """Does a word of robots, letters or brains."""
        name, number = need_words(word)[:2]
        if name == "start":
            if not self.may_begin(number):
                raise Refused(number)
            self._start(number)
        elif name == "come":
            need_robot(self._both[0], number)
            if not self.gone[number]:
                raise Refused(number)
            self._come(number)
        elif name == "take":
            self._take(need_told(self.bag, number, "hold"))
        elif name == "tell":
            need_brain(self.known, number)
            letter = need_told(self.bag, word[2], "left")
            need_up(self.known, number)
            self._tell(number, letter)
        elif name == "fall":
            need_brain(self.known, number)
            need_up(self.known, number)
            self.known = with_thing(self.known, number, None)
        else:
            need_brain(self.known, number)
            need_down(self.known, number)
            self.known = with_thing(self.known, number, (0,) * len(self.done))
            self._put_holds(number)

    def sweep_bag(self):
        """Lets each letter, those too that come of it, be taken once, by its robot or all brains that are up."""
        number = 0
        while number < len(self.bag):
            letter = self.bag[number]
            if letter[0] == "hold":
                self._take(letter)
            else:
                for brain, facts in enumerate(list(self.known)):
                    if facts is not None:
                        self._tell(brain, letter)
            number += 1

    def _start(self, robot):
        self.gone = with_thing(self.gone, robot, True)
        self.log = self.log + (("start", robot),)

    def _come(self, robot):
        self._put_letter("left", robot, self.done[robot])
        self.gone = with_thing(self.gone, robot, False)
        self.done = with_thing(self.done, robot, self.done[robot] + 1)
        self.log = self.log + (("come", robot),)

    def _take(self, letter):
        # What is told is taken for the least such visit behind where the robot is.
        visit = next_like(letter[2], self.done[letter[1]] + 1, self._modulus)
        self._was_told[letter[1]][visit] = True

    def _tell(self, brain, letter):
        facts = self.known[brain]
        robot = letter[1]
        visit = next_like(letter[2], facts[robot], self._modulus)
        if visit >= len(self._both[0][robot]) - 1:
            return
        more = with_left(self._both[0], facts, robot, visit)
        if more != facts:
            self.known = with_thing(self.known, brain, more)
            self._put_holds(brain)

    def _put_holds(self, brain):
        for robot, visit in granted_by(self._both, self.known[brain]):
            if visit > 0:
                self._put_letter("hold", robot, visit)

    def _put_letter(self, word, robot, visit):
        letter = (word, robot, told_visit(visit, self._modulus))
        if letter not in self.bag:
            self.bag = self.bag + (letter,)


def need_brains(brains):
    """Refuses whatever is no number of brains."""
    if not is_count(brains) or brains > MOST_BRAINS:
        raise InvalidIndex(0)


def need_words(word):
    """Any value as a word of robots, letters or brains; what stands behind its name is not looked at here."""
    if not is_sequence(word) or len(word) == 0 or not isinstance(word[0], str):
        raise InvalidScript(-1)
    if word[0] not in WORDS or len(word) != WORDS[word[0]]:
        raise InvalidScript(-1)
    return tuple(word)


def need_told(bag, number, word):
    """The letter of a number in a bag, if it has a word."""
    if not is_index(number, len(bag)):
        raise InvalidLetter(-1)
    if bag[number][0] != word:
        raise Refused("word")
    return bag[number]


def need_brain(known, brain):
    """Refuses whatever is no brain's number."""
    if not is_index(brain, len(known)):
        raise InvalidIndex(-1)


def need_up(known, brain):
    """Refuses a brain that is down."""
    if known[brain] is None:
        raise Refused("down")


def need_down(known, brain):
    """Refuses a brain that is up."""
    if known[brain] is not None:
        raise Refused("up")


def with_thing(row, at, thing):
    """A row in a tuple with another thing at a place."""
    return row[:at] + (thing,) + row[at + 1:]


def first_met(places):
    """The first (cell, one, other) such that both are in the cell, or None, of the cells in which each one is."""
    met = [(cell, one, other) for other, cells in enumerate(places) for one in range(other)
           for cell in cells if cell in places[one]]
    return min(met, default=None)


def plain_carrying(routes, passings, log):
    """A Carrying by which starts and comings were done."""
    carrying = Carrying(routes, passings)
    if not is_sequence(log):
        raise InvalidScript(-1)
    for at, word in enumerate(log):
        if not is_step(word):
            raise InvalidScript(at)
        if word[0] == "start":
            carrying.start_robot(word[1])
        else:
            carrying.come_robot(word[1])
    return carrying


def is_step(value):
    """Whether a value is a start or a coming of something."""
    if not is_sequence(value) or len(value) != 2 or not isinstance(value[0], str):
        return False
    return value[0] in ("start", "come")


def round_meeting(modulus):
    """(Routes of two robots, passings, words) by which they meet where visits are told by a modulus.

    One robot goes on to the visit that is told like its first one, and takes that letter again, which isn't meant for
    it there: the other one still stands in that cell."""
    if not is_number(modulus) or modulus < 2:
        raise InvalidIndex(1)
    last = modulus + 1
    routes = (tuple(range(last + 1)), (last, last + 1))
    passings = [(cell, ((0, cell),)) for cell in range(last)]
    passings.extend([(last, ((1, 0), (0, last))), (last + 1, ((1, 1),))])
    words = []
    for letter in range(modulus):
        words.extend([("take", letter), ("start", 0), ("come", 0)])
    return (routes, tuple(passings), tuple(words + [("take", 0), ("start", 0)]))
