"""Records: questions with what was told for them, so that they can be looked at later, and by others."""

from nobodymeets.basics import is_sequence
from nobodymeets.broken import fetch_holds, fetch_order, fetch_paper, freed_holds
from nobodymeets.charge import served_holds, served_paper
from nobodymeets.court import court_holds, court_paper
from nobodymeets.errors import HallError, Refused
from nobodymeets.passings import passing_holds, passing_paper
from nobodymeets.pieces import parts_holds, parts_paper, together_holds, together_paper
from nobodymeets.standings import standing_holds, standing_paper
from nobodymeets.stock import promise_holds, promise_paper, till_holds, till_paper

# The words of records, and how many things a question of each has.
SIZES = {
    "court": 1, "together": 3, "parts": 3, "fetch": 4, "served": 2, "standing": 3, "promise": 3, "till": 2,
    "passings": 2, "freed": 3,
}


def is_word(value):
    """Whether a value is a word of records."""
    return isinstance(value, str) and value in SIZES


def record_holds(value):
    """Whether any value is a record, without lists at any depth, of which what is told holds."""
    if not isinstance(value, tuple) or len(value) != 3 or has_list(value):
        return False
    word, question, told = value
    if not is_word(word) or not isinstance(question, tuple) or len(question) != SIZES[word]:
        return False
    try:
        return does_hold(word, question, told)
    except HallError:
        return False


def has_list(value):
    """Whether a list is in a tuple, at any depth."""
    left = [value]
    while len(left) > 0:
        parts = left.pop()
        if any([isinstance(part, list) for part in parts]):
            return True
        left.extend([part for part in parts if isinstance(part, tuple)])
    return False


def does_hold(word, question, told):
    """Whether what is told for a question holds, by the judge of a word."""
    if word == "court":
        return court_holds(*question, told)
    if word == "together":
        return together_holds(*question, told)
    if word == "parts":
        return parts_holds(*question, told)
    if word == "fetch":
        return fetch_holds(*question, told)
    if word == "served":
        return served_holds(*question, told)
    if word == "standing":
        return standing_holds(*question, told)
    if word == "promise":
        return promise_holds(*question, told)
    if word == "till":
        return till_holds(*question, told)
    if word == "passings":
        return passing_holds(*question, told)
    return freed_holds(*question, told)


def paper_for(word, question):
    """What is told for a question, by the paper of a word."""
    if word == "court":
        return court_paper(*question)
    if word == "together":
        return together_paper(*question)
    if word == "parts":
        return parts_paper(*question)
    if word == "fetch":
        return fetch_paper(*question)
    if word == "served":
        return served_paper(*question)
    if word == "standing":
        return standing_paper(*question)
    if word == "promise":
        return promise_paper(*question)
    if word == "till":
        return till_paper(*question)
    if word == "passings":
        return passing_paper(*question)
    return fetch_order(*question)


def make_record(word, question):
    """The record of a question, with what is told for it."""
    if not is_word(word):
        raise Refused("word")
    if not is_sequence(question) or len(question) != SIZES[word]:
        raise Refused("question")
    things = in_tuples(question)
    return (word, things, paper_for(word, things))


def in_tuples(value):
    """A value with all its lists turned to tuples."""
    if not is_sequence(value):
        return value
    return tuple([in_tuples(part) for part in value])


def wrong_records(values):
    """The places, ascending, of those of some values that are no records that hold."""
    if not is_sequence(values):
        raise Refused("records")
    return tuple([at for at, value in enumerate(values) if not record_holds(value)])
