"""What several test files use: odd values, values changed a little, and how errors are looked at."""

import unittest

from nobodymeets.errors import HallError, Refused
from nobodymeets.halls import Hall
from nobodymeets.house import House
from nobodymeets.lanes import LaneMap

# The words by which papers begin; a changed paper may begin with that of another kind.
KIND_WORDS = ("dealt", "short", "out", "shut", "knot", "many", "way", "lot", "apart", "cell", "tie", "ring", "moves",
              "lots", "barred", "kept", "tight", "given", "fewest", "lacks", "case", "bound", "carries", "open", "served",
              "end", "behind", "first", "live", "best", "none", "leaf", "split", "stands", "round",
              "plan", "gates", "within", "lifted", "turned", "bridge")
SMALL_HALL = Hall(("park", "free", "shelf"), ((0, 1), (1, 0), (1, 2), (2, 1)))


def odd_values():
    """Things that may stand where something else is asked."""
    return [
        None, True, False, -1, -2, 10 ** 7, "", "x", "free", "dealt", "0", (), [], (None,), [None], (0,), [0], ("x",),
        ((),), [[]], (True,), (-1,), [[[0]]], ((0, 0),), [["start", 0]], HallError(), Refused(0),
        SMALL_HALL, LaneMap((1,), ()), House(SMALL_HALL, (0,)), (SMALL_HALL,), [HallError()],
    ]


def no_sequences():
    """Things that are no lists and no tuples."""
    return [value for value in odd_values() if not isinstance(value, (list, tuple))]


def no_integers():
    """Things that are no integers."""
    return [value for value in odd_values() if isinstance(value, bool) or not isinstance(value, int)]


def no_numbers_below(many):
    """Things that are no numbers of one of so many."""
    return no_integers() + [-1, -many, many, many + 1, 10 ** 9]


def listed(value):
    """A value with all its tuples turned into lists."""
    if isinstance(value, (list, tuple)):
        return [listed(item) for item in value]
    return value


def tupled(value):
    """A value with all its lists turned into tuples."""
    if isinstance(value, (list, tuple)):
        return tuple([tupled(item) for item in value])
    return value


def is_tupled(value):
    """Whether there is no list in a value, at any depth."""
    if isinstance(value, list):
        return False
    return not isinstance(value, tuple) or all(is_tupled(item) for item in value)


def same(one, other):
    """Whether two values are equal, no bool being equal to an integer, no list to a tuple."""
    if type(one) is not type(other):
        return False
    if isinstance(one, (list, tuple)):
        return len(one) == len(other) and all(same(a, b) for a, b in zip(one, other))
    return one == other


def is_int(value):
    return isinstance(value, int) and not isinstance(value, bool)


def is_below(value, many):
    return is_int(value) and 0 <= value < many


def is_rising(value):
    return all(one < other for one, other in zip(value, value[1:]))


def changed_a_little(value):
    """All values that come of one by a single small change, at any depth."""
    if isinstance(value, (list, tuple)):
        yield list(value) if isinstance(value, tuple) else tuple(value)
        yield from (None, 5, "x")
        yield from changed_rows(value)
        for at, item in enumerate(value):
            for changed in changed_a_little(item):
                yield value[:at] + type(value)([changed]) + value[at + 1:]
    elif isinstance(value, bool) or value is None:
        yield from (0, 1, None, "", ())
    elif isinstance(value, int):
        yield from (value + 1, value - 1, value + 10, bool(value), None, str(value), (value,))
        if value in (0, 1):
            yield value == 1
    elif isinstance(value, str):
        yield from (None, 0, "", value + "s", (value,))
        yield from KIND_WORDS
    else:
        yield from (None, 0, "", (value,))


def changed_rows(value):
    """A row with a thing less, a thing twice, two exchanged, a thing more."""
    for at in range(len(value)):
        yield value[:at] + value[at + 1:]
        yield value[:at + 1] + value[at:]
    for at in range(len(value) - 1):
        yield value[:at] + type(value)([value[at + 1], value[at]]) + value[at + 2:]
    for more in (0, 1, None, ()):
        yield value + type(value)([more])


class PromiseCase(unittest.TestCase):
    """A test case that knows how errors of this package are looked at."""

    def told(self, error, kept, call, /, *args, **names):
        """That a call raises just this error, which keeps just this thing."""
        try:
            call(*args, **names)
        except HallError as caught:
            self.assertIs(type(caught), error, (args, names))
            fields = list(vars(caught).values())
            self.assertTrue(len(fields) == 1 and same(fields[0], kept), (fields, kept, args, names))
            return
        except Exception as caught:
            self.fail(f"{type(caught)} {caught} for {args} {names}")
        self.fail(f"no {error} for {args} {names}")

    def tells(self, expected, call, /, *args, **names):
        """That a call's result is just this, to the kinds of its values."""
        result = call(*args, **names)
        self.assertTrue(same(result, expected), (result, expected, args, names))

    def holds_just_if(self, expected, call, *args):
        """That what tells whether tells True or False, and the right one."""
        result = call(*args)
        self.assertIs(result, expected, args)



def shape(value):
    """What a value is made of, to see whether it was changed."""
    if isinstance(value, (list, tuple)):
        return (type(value).__name__, [shape(item) for item in value])
    if value is None or isinstance(value, (int, str)):
        return (type(value).__name__, value)
    return ("object", id(value))
