"""The house by radio: robots know by letters alone where they may go, and brains know of robots by letters alone."""

from nobodymeets.basics import is_sequence
from nobodymeets.brain import first_met, need_brain, need_brains, need_down, need_told, need_up, with_thing
from nobodymeets.errors import InvalidScript, Refused
from nobodymeets.house import House, need_word

# The words of letters and brains, and how many things each has with it.
RADIO_WORDS = {"take": 2, "tell": 3, "fall": 2, "rise": 2}


class RadioHouse:
    """A house in which robots start just if they took a hold of their next visit, changed word by word.

    Each cell has the row of all visits that were ever planned there, but those of robots that were fetched."""

    def __init__(self, hall, homes, brains=1):
        self.house = House(hall, homes)
        need_brains(brains)
        robots = len(self.house.homes)
        self.bag = ()
        self._in_bag = {}
        self._rows = [[] for _ in range(self.house.hall.cells)]
        self._planned = [0] * robots
        self._taken = [{} for _ in range(robots)]
        self._known = ((0,) * robots,) * brains
        self._add_planned()

    def may_begin(self, robot):
        """Whether a robot stands, isn't broken, and took a hold of its next visit."""
        if not self.house.is_ready(robot):
            return False
        return self.house.visit_come_to(robot) + 1 in self._taken[robot]

    def met_cell(self):
        """The first (cell, robot, robot) such that both are in it, or None."""
        return first_met([self.house.robot_place(robot) for robot in range(len(self.house.homes))])

    def do_word(self, word):
        """Does a word of the house, of letters or of brains, and tells what is described for it."""
        if is_radio_word(word):
            self._do_radio_word(word)
            told = (word[0],)
        else:
            told = self._do_house_word(need_word(self.house.hall, word))
        self._put_all_holds()
        return told

    def sweep_bag(self):
        """Lets each letter, those too that come of it, be taken once, by its robot or all brains that are up."""
        self._put_all_holds()
        number = 0
        while number < len(self.bag):
            letter = self.bag[number]
            if letter[0] == "hold":
                self._take(letter)
            else:
                self._tell_all(letter)
            number += 1

    def _do_radio_word(self, word):
        name, number = word[0], word[1]
        if name == "take":
            self._take(need_told(self.bag, number, "hold"))
            return
        need_brain(self._known, number)
        if name == "tell":
            letter = need_told(self.bag, word[2], "left")
            need_up(self._known, number)
            self._tell(number, letter)
        elif name == "fall":
            need_up(self._known, number)
            self._known = with_thing(self._known, number, None)
        else:
            need_down(self._known, number)
            self._known = with_thing(self._known, number, (0,) * len(self._planned))

    def _do_house_word(self, word):
        if word[0] == "start" and not self.may_begin(word[1]):
            raise Refused(word[1])
        told = self.house.do_word(word)
        if word[0] == "come":
            self._put_letter(("left", word[1], self.house.visit_come_to(word[1]) - 1))
        elif word[0] == "fetch":
            self._rows = [[visit for visit in row if visit[0] != word[1]] for row in self._rows]
        self._add_planned()
        return told

    def _add_planned(self):
        """Puts visits that were planned since to the ends of their cells' rows."""
        for robot, many in enumerate(list(self._planned)):
            cells = self.house.planned_cells(robot)
            for visit in range(many, len(cells)):
                self._rows[cells[visit]].append((robot, visit))
            self._planned[robot] = len(cells)

    def _take(self, letter):
        self._taken[letter[1]][letter[2]] = True

    def _tell_all(self, letter):
        before = self._known
        for brain, facts in enumerate(list(before)):
            if facts is not None:
                self._tell(brain, letter)
        # By the same facts, all holds are in the bag already.
        if self._known != before:
            self._put_all_holds()

    def _tell(self, brain, letter):
        facts = self._known[brain]
        self._known = with_thing(self._known, brain, with_thing(facts, letter[1], max(facts[letter[1]], letter[2] + 1)))

    def _put_all_holds(self):
        """Puts, by brains that are up, then cells, a hold of the first visit of the row that isn't known to be over."""
        for facts in self._known:
            if facts is not None:
                for row in self._rows:
                    self._put_first_hold(facts, row)

    def _put_first_hold(self, facts, row):
        for robot, visit in row:
            if visit >= facts[robot]:
                self._put_letter(("hold", robot, visit))
                return

    def _put_letter(self, letter):
        if letter not in self._in_bag:
            self._in_bag[letter] = True
            self.bag = self.bag + (letter,)


def is_radio_word(value):
    """Whether any value is a word of letters or of brains; what stands behind its name is not looked at here."""
    if not is_sequence(value) or len(value) == 0 or not isinstance(value[0], str):
        return False
    if value[0] not in RADIO_WORDS:
        return False
    if len(value) != RADIO_WORDS[value[0]]:
        raise InvalidScript(-1)
    return True
