"""Stretches of ticks at which a cell is free: looked up, put together, made shorter, and left over by a plan."""

from nobodymeets.basics import is_number, is_sequence
from nobodymeets.errors import InvalidSize, InvalidStretches
from nobodymeets.halls import need_hall
from nobodymeets.worlds import need_plan


def need_stretches(stretches, at):
    """Any value as stretches, in tuples; at tells which of a call's stretches they are."""
    if not are_stretches(stretches):
        raise InvalidStretches(at)
    return tuple([(begin, end) for begin, end in stretches])


def are_stretches(value):
    """Whether a value is pairs (begin, end), each begin below its end and above the end before."""
    if not is_sequence(value) or not all([is_stretch(pair) for pair in value]):
        return False
    return all([one[1] is not None and one[1] < other[0] for one, other in zip(value, value[1:])])


def is_stretch(value):
    """Whether a value is a begin and an end above it, or None for no end."""
    if not is_sequence(value) or len(value) != 2 or not is_number(value[0]):
        return False
    return value[1] is None or (is_number(value[1]) and value[0] < value[1])


def need_free(hall, free):
    """Any value as stretches for each cell of a hall, in tuples."""
    if not is_sequence(free) or len(free) != hall.cells:
        raise InvalidStretches(-1)
    return tuple([need_stretches(stretches, cell) for cell, stretches in enumerate(free)])


def need_number(value, word):
    """Refuses whatever is no number."""
    if not is_number(value):
        raise InvalidSize(word)


def room_at(stretches, tick):
    """The number of the stretch that has a tick, or None."""
    told = need_stretches(stretches, -1)
    need_number(tick, "tick")
    return room_of(told, tick)


def room_of(told, tick):
    """The number of the one of stretches in tuples that has a tick, or None."""
    for number, (begin, end) in enumerate(told):
        if begin <= tick and (end is None or tick < end):
            return number
    return None


def is_free_at(stretches, tick):
    """Whether a stretch has a tick."""
    return room_at(stretches, tick) is not None


def free_but(ticks, since=None):
    """The stretches of all ticks but some, and but all from a last one on."""
    if not is_sequence(ticks):
        raise InvalidSize("tick")
    for tick in ticks:
        need_number(tick, "tick")
    if since is not None:
        need_number(since, "since")
    return stretches_but(ticks, since)


def stretches_but(ticks, since):
    """The stretches of all ticks but some, and but all from since on, if it isn't None."""
    found = []
    begin = 0
    for tick in sorted([tick for tick in ticks if since is None or tick < since]):
        if begin < tick:
            found.append((begin, tick))
        begin = tick + 1
    if since is None or begin < since:
        found.append((begin, since))
    return tuple(found)


def both_free(one, other):
    """The stretches of the ticks that both have."""
    ones, others = need_stretches(one, 0), need_stretches(other, 1)
    far = far_tick(ones + others)
    pieces = [(max(a, c), min(b, d)) for a, b in bounded(ones, far) for c, d in bounded(others, far)]
    return unbounded([(begin, end) for begin, end in pieces if begin < end], far)


def either_free(one, other):
    """The stretches of the ticks that one or the other has."""
    ones, others = need_stretches(one, 0), need_stretches(other, 1)
    far = far_tick(ones + others)
    found = []
    for begin, end in sorted(bounded(ones, far) + bounded(others, far)):
        if len(found) > 0 and begin <= found[-1][1]:
            found[-1] = (found[-1][0], max(found[-1][1], end))
        else:
            found.append((begin, end))
    return unbounded(found, far)


def far_tick(stretches):
    """A tick behind all that stretches tell, to stand for no end."""
    return max([tick for pair in stretches for tick in pair if tick is not None], default=0) + 1


def bounded(stretches, far):
    """Stretches with a far tick for no end."""
    return [(begin, far if end is None else end) for begin, end in stretches]


def unbounded(pieces, far):
    """Stretches with no end for the far tick, in a tuple."""
    return tuple([(begin, None if end == far else end) for begin, end in pieces])


def shorten_ends(stretches, late):
    """Each stretch so many ticks shorter, without those of which nothing is left."""
    told = need_stretches(stretches, -1)
    need_number(late, "late")
    return shortened(told, late)


def shortened(told, late):
    """Stretches in tuples, each so many ticks shorter, without those of which nothing is left."""
    ends = [(begin, None if end is None else end - late) for begin, end in told]
    return tuple([(begin, end) for begin, end in ends if end is None or begin < end])


def late_free(hall, free, late):
    """Of each cell the stretches so many ticks shorter."""
    need_hall(hall)
    told = need_free(hall, free)
    need_number(late, "late")
    return tuple([shortened(stretches, late) for stretches in told])


def free_of(hall, plan):
    """For each cell the stretches in which one more robot may be there among a plan's."""
    rows = need_plan(hall, plan)
    last = len(rows[0]) - 1
    barred = [[] for _ in range(hall.cells)]
    for row in rows:
        for tick, cell in enumerate(row):
            barred[cell].extend([near for near in (tick - 1, tick, tick + 1) if near >= 0])
    # At the last tick's cells robots stay, so nobody else is there from the tick ahead of it on.
    since = {row[-1]: max(last - 1, 0) for row in rows}
    return tuple([stretches_but(ticks, since.get(cell)) for cell, ticks in enumerate(barred)])
