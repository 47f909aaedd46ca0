"""A house by hand: words done, taken back and done again, moments before, and what would have been."""

from nobodymeets.basics import is_index
from nobodymeets.errors import InvalidIndex, InvalidScript, NoRobot, Refused
from nobodymeets.house import House, house_again


class Live:
    """A house in which just the words are done, and those words that were taken back last."""

    def __init__(self, hall, homes):
        self.house = House(hall, homes)
        self.hall = self.house.hall
        self.homes = self.house.homes
        self.words = ()
        self._taken_back = ()

    def do_word(self, word):
        """Does a word of the house, and tells what it tells."""
        told = self.house.do_word(word)
        self.words = self.house.words
        self._taken_back = ()
        return told

    def undo_word(self):
        """Takes back the last word; whether there was one."""
        if len(self.words) == 0:
            return False
        self._taken_back = self._taken_back + self.words[-1:]
        self.house = self._house_at(len(self.words) - 1)
        self.words = self.house.words
        return True

    def redo_word(self):
        """Does again the word taken back last, if there was no new one since; whether there was one."""
        if len(self._taken_back) == 0:
            return False
        self.house.do_word(self._taken_back[-1])
        self.words = self.house.words
        self._taken_back = self._taken_back[:-1]
        return True

    def all_places(self):
        """Each robot's place."""
        return places_in(self.house)

    def places_at(self, number):
        """Each robot's place behind so many words."""
        if not is_index(number, len(self.words) + 1):
            raise InvalidIndex(-1)
        return places_in(self._house_at(number))

    def told_if(self, number, word):
        """If a word had been another one: (how many words can be done, where robots are then)."""
        if not is_index(number, len(self.words)):
            raise InvalidIndex(-1)
        house = self._house_at(number)
        many = number + words_done(house, (word,) + self.words[number + 1:])
        return (many, places_in(house))

    def wait_chain(self, robot):
        """A robot, the one for which it waits, and so on, up to one that waits for nobody."""
        chain = [robot]
        ahead = self.house.waits_on(robot)
        while ahead is not None:
            chain.append(ahead)
            ahead = self.house.waits_on(ahead)
        return tuple(chain)

    def _house_at(self, number):
        return house_again(self.hall, self.homes, self.words[:number])


def places_in(house):
    """Each robot's place in a house."""
    return tuple([house.robot_place(robot) for robot in range(len(house.homes))])


def words_done(house, words):
    """How many words can be done in a house, up to the first that can't; they are done."""
    for at, word in enumerate(words):
        try:
            house.do_word(word)
        except (InvalidScript, NoRobot, Refused):
            return at
    return len(words)
