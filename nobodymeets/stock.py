"""Stock: the book of what is on the shelves, what can be promised till when, and goods that spoil."""

from nobodymeets.basics import is_count, is_index, is_number, is_rising, is_sequence
from nobodymeets.errors import (InvalidComings, InvalidDeeds, InvalidLines, InvalidLots, InvalidSize, InvalidStock,
                                InvalidWants)
from nobodymeets.goods import are_goods, counts_of, need_goods, need_shelves, told_goods

ONE_SHELF_WORDS = ("in", "out", "found")
STOCK = -1


def begin_book(shelves):
    """The book of shelves by which no deed is known."""
    return (need_shelves(shelves), 0, ())


def need_book(book):
    """Refuses whatever is no book."""
    if not is_book(book):
        raise InvalidStock(-1)


def is_book(value):
    """Whether a value is a tuple of shelves, the mark, and the known numbers beyond it."""
    if not isinstance(value, tuple) or len(value) != 3:
        return False
    shelves, mark, beyond = value
    if not isinstance(shelves, tuple) or not all([is_book_shelf(goods) for goods in shelves]):
        return False
    if not is_number(mark) or not isinstance(beyond, tuple):
        return False
    return all([is_number(number) for number in beyond]) and is_rising((mark,) + beyond)


def is_book_shelf(value):
    """Whether a value is goods in tuples, ascending."""
    return are_goods(value) and value == told_goods(value)


def is_tuple_of_tuples(value):
    """Whether a value is a tuple of nothing but tuples."""
    return isinstance(value, tuple) and all([isinstance(item, tuple) for item in value])


def need_deeds(deeds, shelves):
    """Deeds at so many shelves, each in a tuple."""
    if not is_sequence(deeds):
        raise InvalidDeeds(-1)
    for at, deed in enumerate(deeds):
        if not is_deed(deed, shelves):
            raise InvalidDeeds(at)
    return [tuple(deed) for deed in deeds]


def is_deed(value, shelves):
    """Whether a value is a deed at so many shelves."""
    if not is_sequence(value) or len(value) not in (5, 6):
        return False
    if not is_number(value[0]) or not is_index(value[2], shelves) or not is_number(value[-2]):
        return False
    if len(value) == 6:
        return value[1] == "move" and is_index(value[3], shelves) and value[3] != value[2] and is_count(value[5])
    if value[1] == "found":
        return is_number(value[4])
    return value[1] in ONE_SHELF_WORDS and is_count(value[4])


def book_after(book, deeds):
    """(The book when deeds were done, what is told of each)."""
    need_book(book)
    rows = need_deeds(deeds, len(book[0]))
    shelves = [counts_of(goods) for goods in book[0]]
    mark = book[1]
    beyond = {number: True for number in book[2]}
    told = []
    for deed in rows:
        if deed[0] < mark or deed[0] in beyond:
            told.append("again")
            continue
        beyond[deed[0]] = True
        while mark in beyond:
            del beyond[mark]
            mark += 1
        told.append(done_deed(shelves, deed))
    goods = tuple([told_counts(counts) for counts in shelves])
    return ((goods, mark, tuple(sorted(list(beyond)))), tuple(told))


def done_deed(shelves, deed):
    """Does a deed, unless it takes more than there is, and tells which."""
    word, good, count = deed[1], deed[-2], deed[-1]
    there = shelves[deed[2]].get(good, 0)
    if word == "found":
        shelves[deed[2]][good] = count
    elif word == "in":
        shelves[deed[2]][good] = there + count
    elif there < count:
        return "short"
    else:
        shelves[deed[2]][good] = there - count
    if word == "move":
        shelves[deed[3]][good] = shelves[deed[3]].get(good, 0) + count
    return "done"


def told_counts(counts):
    """The goods of which there are any, in tuples, ascending."""
    return told_goods([(good, count) for good, count in counts.items() if count > 0])


def wrong_row(value):
    """The place of the first thing that is no row of a number, a good (or a day) and a count; -1: no sequence;
    None: none is wrong."""
    if not is_sequence(value):
        return -1
    for at, row in enumerate(value):
        if not is_row(row):
            return at
    return None


def is_row(value):
    """Whether a value is two numbers and a count."""
    if not is_sequence(value) or len(value) != 3:
        return False
    return is_number(value[0]) and is_number(value[1]) and is_count(value[2])


def need_promise(stock, comings, wants):
    """The stock's goods, comings and wants, in tuples."""
    goods = need_goods(stock)
    wrong = wrong_row(comings)
    if wrong is not None:
        raise InvalidComings(wrong)
    wrong = wrong_row(wants)
    if wrong is not None:
        raise InvalidWants(wrong)
    return goods, tuple([tuple(row) for row in comings]), tuple([tuple(row) for row in wants])


def promise_paper(stock, comings, wants):
    """What each want is given of the stock and of comings, or by when too much is wanted of a good."""
    goods, arrivals, wishes = need_promise(stock, comings, wants)
    tight = tight_pair(goods, arrivals, wishes)
    if tight is not None:
        return ("tight",) + tight
    return ("kept", kept_gifts(goods, arrivals, wishes))


def tight_pair(goods, arrivals, wishes):
    """The least good and moment by which too much of it is wanted, or None.

    More and more is there; so too much is wanted first at the moment of some want."""
    for good, moment in sorted([(wish[1], wish[0]) for wish in wishes]):
        if is_tight(goods, arrivals, wishes, good, moment):
            return (good, moment)
    return None


def is_tight(goods, arrivals, wishes, good, moment):
    """Whether by a moment more of a good is wanted than there is."""
    there = counts_of(goods).get(good, 0) + count_by(arrivals, good, moment)
    return count_by(wishes, good, moment) > there


def count_by(rows, good, moment):
    """How many of a good rows tell up to a moment."""
    return sum([row[2] for row in rows if row[1] == good and row[0] <= moment])


def kept_gifts(goods, arrivals, wishes):
    """For each want its gifts, where nothing is tight: wants in their order take what came first.

    So what comes behind a want's moment is not reached: all ahead of it is enough."""
    left = {(STOCK, good): count for good, count in goods}
    left.update({(place, row[1]): row[2] for place, row in enumerate(arrivals)})
    places = [STOCK] + [place for _, place in sorted([(row[0], place) for place, row in enumerate(arrivals)])]
    gifts = [()] * len(wishes)
    for wish, at in sorted([(wish, at) for at, wish in enumerate(wishes)]):
        gifts[at] = taken_gifts(left, places, wish[1], wish[2])
    return tuple(gifts)


def taken_gifts(left, places, good, count):
    """Takes so many of a good from what is left at places, in their order."""
    gifts = []
    needed = count
    for place in places:
        given = min(needed, left.get((place, good), 0))
        if given > 0:
            left[(place, good)] -= given
            needed = needed - given
            gifts.append((place, given))
    return tuple(gifts)


def promise_holds(stock, comings, wants, value):
    """Whether any value is a paper that promise_paper may tell."""
    goods, arrivals, wishes = need_promise(stock, comings, wants)
    if not isinstance(value, tuple):
        return False
    if len(value) == 3:
        if value[0] != "tight" or not is_number(value[1]) or not is_number(value[2]):
            return False
        return is_tight(goods, arrivals, wishes, value[1], value[2])
    return len(value) == 2 and value[0] == "kept" and do_keep(goods, arrivals, wishes, value[1])


def do_keep(goods, arrivals, wishes, value):
    """Whether any value is gifts, in time, of no more than there is, that keep each want."""
    if not isinstance(value, tuple) or len(value) != len(wishes):
        return False
    left = {(STOCK, good): count for good, count in goods}
    left.update({(place, row[1]): row[2] for place, row in enumerate(arrivals)})
    for wish, gifts in zip(wishes, value):
        if not is_tuple_of_tuples(gifts) or not all([is_gift_in_time(arrivals, wish[0], gift) for gift in gifts]):
            return False
        if sum([count for _, count in gifts]) != wish[2]:
            return False
        for place, count in gifts:
            if left.get((place, wish[1]), 0) < count:
                return False
            left[(place, wish[1])] -= count
    return True


def is_gift_in_time(arrivals, moment, gift):
    """Whether a tuple is the stock's place, or that of a coming up to a moment, and a count."""
    if len(gift) != 2 or not is_count(gift[1]):
        return False
    if is_index(gift[0], len(arrivals)):
        return arrivals[gift[0]][0] <= moment
    return gift[0] == STOCK


def earliest_moment(stock, comings, wants, good, count):
    """The first moment for which so many of a good can be wanted beside the others, or None."""
    goods, arrivals, wishes = need_promise(stock, comings, wants)
    if not is_number(good):
        raise InvalidSize("good")
    if not is_count(count):
        raise InvalidSize("count")
    # One more can be wanted at first, or else as soon as something has come.
    for moment in [0] + sorted([row[0] for row in arrivals if row[1] == good]):
        if tight_pair(goods, arrivals, wishes + ((moment, good, count),)) is None:
            return moment
    return None


def need_lots(lots):
    """Lots (good, day, count), in tuples."""
    wrong = wrong_row(lots)
    if wrong is not None:
        raise InvalidLots(wrong)
    return tuple([tuple(lot) for lot in lots])


def need_lines(lines):
    """Lines (good, day, count), in tuples."""
    wrong = wrong_row(lines)
    if wrong is not None:
        raise InvalidLines(wrong)
    return tuple([tuple(line) for line in lines])


def give_till(lots, line):
    """The gifts of lots that are just good enough for a line; None: too few."""
    rows = need_lots(lots)
    wish = need_lines((line,))[0]
    return just_good(rows, [lot[2] for lot in rows], wish)


def just_good(lots, left, line):
    """The gifts for a line of what is left of lots, the least days first; None: too few."""
    good, day, needed = line
    gifts = []
    for _, place in sorted([(lot[1], place) for place, lot in enumerate(lots) if lot[0] == good and lot[1] >= day]):
        given = min(needed, left[place])
        if given > 0:
            needed = needed - given
            gifts.append((place, given))
    return tuple(sorted(gifts)) if needed == 0 else None


def till_paper(lots, lines):
    """The gifts for each line in its turn, or from which day on too much of a good is wanted."""
    rows = need_lots(lots)
    wishes = need_lines(lines)
    for good, day in sorted([(line[0], line[1]) for line in wishes]):
        if is_short(rows, wishes, good, day):
            return ("short", good, day)
    left = [lot[2] for lot in rows]
    given = []
    for wish in wishes:
        # Somebody who takes what is just good enough takes nothing that another line needs.
        gifts = just_good(rows, left, wish)
        left = left_behind(left, gifts)
        given.append(gifts)
    return ("given", tuple(given))


def is_short(lots, lines, good, day):
    """Whether from a day on more of a good is wanted than there is."""
    return count_from(lines, good, day) > count_from(lots, good, day)


def count_from(rows, good, day):
    """How many of a good rows tell from a day on."""
    return sum([row[2] for row in rows if row[0] == good and row[1] >= day])


def left_behind(left, gifts):
    """What is left of lots behind gifts."""
    counts = list(left)
    for place, count in gifts:
        counts[place] -= count
    return counts


def till_holds(lots, lines, value):
    """Whether any value is a paper that till_paper may tell."""
    rows = need_lots(lots)
    wishes = need_lines(lines)
    if not isinstance(value, tuple):
        return False
    if len(value) == 3:
        if value[0] != "short" or not is_number(value[1]) or not is_number(value[2]):
            return False
        return is_short(rows, wishes, value[1], value[2])
    return len(value) == 2 and value[0] == "given" and do_give(rows, wishes, value[1])


def do_give(lots, lines, value):
    """Whether any value is gifts for each line of what is left behind those ahead."""
    if not isinstance(value, tuple) or len(value) != len(lines):
        return False
    left = [lot[2] for lot in lots]
    for line, gifts in zip(lines, value):
        if not are_gifts(lots, left, line, gifts):
            return False
        left = left_behind(left, gifts)
    return True


def are_gifts(lots, left, line, value):
    """Whether any value is gifts (lot's place, count) for a line, ascending, of what is left of lots."""
    if not is_tuple_of_tuples(value) or not all([is_gift(lots, left, line, gift) for gift in value]):
        return False
    return is_rising([place for place, _ in value]) and sum([count for _, count in value]) == line[2]


def is_gift(lots, left, line, gift):
    """Whether a tuple is the place of a lot that is good enough for a line, and a count that is left of it."""
    if len(gift) != 2 or not is_index(gift[0], len(lots)) or not is_count(gift[1]):
        return False
    lot = lots[gift[0]]
    return lot[0] == line[0] and lot[1] >= line[1] and gift[1] <= left[gift[0]]


def spoilt_line(lots, line, gifts):
    """The line that is missed behind gifts, though not behind those of give_till; None: there is none."""
    rows = need_lots(lots)
    wish = need_lines((line,))[0]
    counts = [lot[2] for lot in rows]
    if not are_gifts(rows, counts, wish, gifts):
        raise InvalidLines(-1)
    left = with_counts(rows, left_behind(counts, gifts))
    best = with_counts(rows, left_behind(counts, just_good(rows, counts, wish)))
    for day in sorted([lot[1] for lot in rows if lot[0] == wish[0]]):
        most = count_from(best, wish[0], day)
        if count_from(left, wish[0], day) < most:
            return (wish[0], day, most)
    return None


def with_counts(lots, counts):
    """Lots with other counts."""
    return tuple([(lot[0], lot[1], count) for lot, count in zip(lots, counts)])
