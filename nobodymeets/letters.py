"""Letters of robots and brains, the bag in which they lie, and visits told by their rests."""

from nobodymeets.basics import is_index, is_number, is_sequence
from nobodymeets.errors import InvalidLetter

WORDS = ("left", "hold")


def need_letter(value, at=-1):
    """Any value as a letter, in a tuple."""
    if not is_letter(value):
        raise InvalidLetter(at)
    return tuple(value)


def is_letter(value):
    """Whether any value is a word, a robot's number and a visit's number."""
    if not is_sequence(value) or len(value) != 3 or not isinstance(value[0], str):
        return False
    return value[0] in WORDS and is_number(value[1]) and is_number(value[2])


def need_bag(value):
    """Any value as a bag, a tuple of unlike letters."""
    if not is_sequence(value):
        raise InvalidLetter(-1)
    found = {}
    for at, item in enumerate(value):
        letter = need_letter(item, at)
        if letter in found:
            raise InvalidLetter(at)
        found[letter] = True
    return tuple(list(found))


def put_letter(bag, letter):
    """The bag with a letter at its end, if it isn't there."""
    letters = need_bag(bag)
    more = need_letter(letter)
    return letters if more in letters else letters + (more,)


def letter_at(bag, number):
    """The letter of a number; it stays in the bag."""
    letters = need_bag(bag)
    if not is_index(number, len(letters)):
        raise InvalidLetter(-1)
    return letters[number]


def told_visit(visit, modulus):
    """How a visit is told: itself, or by a modulus that isn't 0 its rest."""
    return visit if modulus == 0 else visit % modulus


def next_like(told, least, modulus):
    """The least visit from one on with the rest of what is told; by modulus 0 what is told."""
    return told if modulus == 0 else least + (told - least) % modulus
