"""[64], [65]: letters, bags, and visits told by their rests."""

import itertools
import unittest

from nobodymeets.errors import InvalidLetter
from nobodymeets.letters import letter_at, need_bag, need_letter, next_like, put_letter, told_visit
from tests.helpers import PromiseCase, changed_a_little, is_int, listed, odd_values, tupled

LETTERS = (("left", 0, 0), ("hold", 0, 0), ("hold", 3, 12), ("left", 10 ** 9, 1))


def is_letter(value):
    if not isinstance(value, (list, tuple)) or len(value) != 3:
        return False
    return value[0] in ("left", "hold") and all(is_int(number) and number >= 0 for number in value[1:])


def fault_of(value):
    """The first thing of a bag that is no letter or was there before; -1: no bag at all; None: right."""
    if not isinstance(value, (list, tuple)):
        return -1
    for at, item in enumerate(value):
        if not is_letter(item) or tupled(item) in [tupled(other) for other in value[:at]]:
            return at
    return None


class LetterTest(PromiseCase):
    def test_letters(self):
        for letter in LETTERS:
            self.tells(letter, need_letter, letter)
            self.tells(letter, need_letter, list(letter))

    def test_letters_changed_a_little(self):
        for letter in LETTERS:
            for value in list(changed_a_little(letter)) + list(changed_a_little(list(letter))) + odd_values():
                if is_letter(value):
                    self.tells(tuple(value), need_letter, value)
                else:
                    self.told(InvalidLetter, -1, need_letter, value)
                    self.told(InvalidLetter, 4, need_letter, value, 4)
                    self.told(InvalidLetter, "here", need_letter, value, at="here")

    def test_wrong_letters(self):
        for value in (("Left", 0, 0), ("hold", -1, 0), ("hold", 0, -1), ("hold", True, 0), ("hold", 0, False),
                      ("hold", 0), ("hold", 0, 0, 0), ("hold", "0", 0), ("hold", None, 0), "hold", None, (), 3,
                      (("hold",), 0, 0), ("take", 0, 0), (0, 0, 0), ("", 0, 0)):
            self.told(InvalidLetter, -1, need_letter, value)


class BagTest(PromiseCase):
    def test_bags(self):
        self.tells((), need_bag, [])
        for many in range(4):
            for bag in itertools.permutations(LETTERS, many):
                self.tells(bag, need_bag, bag)
                self.tells(bag, need_bag, listed(bag))

    def test_bags_changed_a_little(self):
        for bag in (LETTERS[:2], LETTERS, (), LETTERS + (("left", 0, 1),)):
            for value in list(changed_a_little(bag)) + list(changed_a_little(listed(bag))) + odd_values():
                fault = fault_of(value)
                if fault is None:
                    self.tells(tupled(value), need_bag, value)
                else:
                    self.told(InvalidLetter, fault, need_bag, value)
                    self.told(InvalidLetter, fault, put_letter, value, None)
                    self.told(InvalidLetter, fault, letter_at, value, None)

    def test_the_first_wrong_letter_of_a_bag(self):
        one = ("hold", 1, 1)
        for bag, at in (([one, one], 1), ([one, list(one)], 1), ([one, ("hold", 1)], 1), ([0, one, one], 0),
                        ([one, ("left", 1, 1), one, 0], 2), (None, -1), ("hold", -1), ([[one]], 0)):
            self.told(InvalidLetter, at, need_bag, bag)

    def test_put_at_the_end_if_it_is_not_there(self):
        bag = LETTERS[:3]
        self.tells(LETTERS, put_letter, bag, LETTERS[3])
        self.tells(LETTERS, put_letter, listed(bag), list(LETTERS[3]))
        for letter in bag:
            self.tells(bag, put_letter, bag, letter)
            self.tells(bag, put_letter, listed(bag), list(letter))
        self.tells((LETTERS[0],), put_letter, (), LETTERS[0])
        self.tells((("left", 1, 2), ("hold", 1, 2)), put_letter, [("left", 1, 2)], ["hold", 1, 2])

    def test_wrong_letters_are_not_put(self):
        for letter in odd_values() + [("hold", True, 0), ("hold", 0)]:
            self.told(InvalidLetter, -1, put_letter, LETTERS, letter)
        self.told(InvalidLetter, 0, put_letter, [None], None)

    def test_a_letter_by_its_number(self):
        for number in range(4):
            self.tells(LETTERS[number], letter_at, LETTERS, number)
            self.tells(LETTERS[number], letter_at, listed(LETTERS), number)
        for number in (4, -1, True, False, None, "0", (0,), 10 ** 9):
            self.told(InvalidLetter, -1, letter_at, LETTERS, number)
        self.told(InvalidLetter, -1, letter_at, (), 0)
        self.told(InvalidLetter, 1, letter_at, [LETTERS[0], LETTERS[0]], 0)


class RestTest(PromiseCase):
    def test_told_visits(self):
        for visit in range(30):
            self.tells(visit, told_visit, visit, 0)
            for modulus in range(1, 9):
                rest = told_visit(visit, modulus)
                self.assertTrue(is_int(rest) and 0 <= rest < modulus and (visit - rest) % modulus == 0)

    def test_the_least_visit_with_a_rest(self):
        for told, least in itertools.product(range(20), repeat=2):
            self.tells(told, next_like, told, least, 0)
            for modulus in range(1, 9):
                likes = [visit for visit in range(least, least + 9) if visit % modulus == told % modulus]
                self.tells(likes[0], next_like, told, least, modulus)

    def test_what_is_told_is_understood_from_up_to_it_on(self):
        for visit in range(20):
            for modulus in range(2, 9):
                for least in range(max(0, visit - modulus + 1), visit + 1):
                    self.tells(visit, next_like, told_visit(visit, modulus), least, modulus)


if __name__ == "__main__":
    unittest.main()
