"""[46], [47], [48]: the book of stock, promises, and goods that spoil."""

import itertools
import random
import unittest

from nobodymeets.errors import (InvalidComings, InvalidDeeds, InvalidGoods, InvalidLines, InvalidLots, InvalidSize,
                                InvalidStock, InvalidWants)
from nobodymeets.stock import (begin_book, book_after, earliest_moment, give_till, promise_holds, promise_paper,
                               spoilt_line, till_holds, till_paper)
from tests.helpers import PromiseCase, changed_a_little, is_below, is_int, is_rising, is_tupled, listed, odd_values, same


def some_deeds(chance, many, shelves):
    deeds = []
    for _ in range(many):
        word = chance.choice(("in", "out", "found", "move"))
        places = chance.sample(range(shelves), 2) if word == "move" else [chance.randrange(shelves)]
        count = chance.randint(0 if word == "found" else 1, 5)
        deeds.append((chance.randrange(9), word, *places, chance.randrange(3), count))
    return deeds


def plain_after(shelves, known, deeds):
    """[46]: what is told of deeds; shelves (dicts) and known (a set) are changed."""
    told = []
    for number, word, shelf, *other, good, count in deeds:
        if number in known:
            told.append("again")
            continue
        known.add(number)
        there = shelves[shelf].get(good, 0)
        if word in ("out", "move") and there < count:
            told.append("short")
            continue
        shelves[shelf][good] = {"in": there + count, "found": count}.get(word, there - count)
        if word == "move":
            shelves[other[0]][good] = shelves[other[0]].get(good, 0) + count
        told.append("done")
    return tuple(told)


def plain_book(shelves, known):
    mark = min(number for number in range(len(known) + 1) if number not in known)
    goods = tuple(tuple(sorted((good, count) for good, count in shelf.items() if count)) for shelf in shelves)
    return (goods, mark, tuple(sorted(number for number in known if number > mark)))


class BookTest(PromiseCase):
    def test_begin(self):
        self.tells(((), 0, ()), begin_book, [])
        self.tells((((1, 5), (4, 2)), (), ((0, 10 ** 17),)), lambda shelves: begin_book(shelves)[0],
                   [[(4, 2), [1, 5]], (), [[0, 10 ** 17]]])
        self.tells(((((0, 1),),), 0, ()), begin_book, [[(0, 1)]])

    def test_each_word(self):
        book = begin_book([[(0, 2)], []])
        for deed, goods, told in (
                ((0, "in", 1, 0, 3), (((0, 2),), ((0, 3),)), "done"), ((0, "in", 0, 0, 3), (((0, 5),), ()), "done"),
                ((0, "out", 0, 0, 2), ((), ()), "done"), ((0, "out", 0, 0, 1), (((0, 1),), ()), "done"),
                ((0, "out", 0, 0, 3), (((0, 2),), ()), "short"), ((0, "out", 1, 0, 1), (((0, 2),), ()), "short"),
                ((0, "found", 0, 0, 0), ((), ()), "done"), ((0, "found", 0, 0, 9), (((0, 9),), ()), "done"),
                ((0, "found", 1, 3, 1), (((0, 2),), ((3, 1),)), "done"), ((0, "found", 1, 3, 0), (((0, 2),), ()), "done"),
                ((0, "move", 0, 1, 0, 1), (((0, 1),), ((0, 1),)), "done"), ((0, "move", 0, 1, 0, 2), ((), ((0, 2),)), "done"),
                ((0, "move", 0, 1, 0, 3), (((0, 2),), ()), "short"), ((0, "move", 1, 0, 0, 1), (((0, 2),), ()), "short")):
            self.tells(((goods, 1, ()), (told,)), book_after, book, [deed])

    def test_numbers_below_and_beyond_the_mark(self):
        book = ((), 2, (4, 7))
        shelf = ((((0, 9),),), 2, (4, 7))
        self.tells((book, ()), book_after, book, ())
        for number, mark, beyond, told in ((0, 2, (4, 7), "again"), (1, 2, (4, 7), "again"), (4, 2, (4, 7), "again"),
                                           (7, 2, (4, 7), "again"), (2, 3, (4, 7), "done"), (3, 2, (3, 4, 7), "done"),
                                           (5, 2, (4, 5, 7), "done"), (10 ** 9, 2, (4, 7, 10 ** 9), "done")):
            goods = (((0, 9),),) if told == "again" else (((0, 8),),)
            self.tells(((goods, mark, beyond), (told,)), book_after, shelf, [(number, "out", 0, 0, 1)])
        self.tells((((((0, 7),),), 5, (7,)), ("done", "done")), book_after, shelf,
                   [(3, "out", 0, 0, 1), (2, "out", 0, 0, 1)])
        # What is short is known, too, but nothing else is.
        self.tells((((((0, 9),),), 3, (4, 7)), ("short", "again")), book_after, shelf,
                   [(2, "out", 0, 0, 10), (2, "out", 0, 0, 1)])

    def test_other_books(self):
        chance = random.Random(1)
        for _ in range(300):
            many = chance.randint(2, 4)
            shelves = [{good: chance.randint(1, 4) for good in chance.sample(range(4), 2)} for _ in range(many)]
            known = set()
            book = begin_book([list(shelf.items()) for shelf in shelves])
            for _ in range(3):
                deeds = some_deeds(chance, chance.randint(0, 6), many)
                told = plain_after(shelves, known, deeds)
                after = book_after(book, deeds)
                self.assertTrue(same(after, (plain_book(shelves, known), told)), (book, deeds, after))
                self.assertTrue(same(book_after(book, listed(deeds)), after))
                book = after[0]

    def test_cut_anywhere_and_told_again(self):
        chance = random.Random(2)
        for _ in range(100):
            book = begin_book([[(0, 5), (1, 2)], [(2, 1)], []])
            deeds = some_deeds(chance, 8, 3)
            end, told = book_after(book, deeds)
            for cut in range(len(deeds) + 1):
                kept, first = book_after(book, deeds[:cut])
                self.assertTrue(same(book_after(kept, deeds[cut:]), (end, told[cut:])))
                self.assertEqual(first, told[:cut])
                self.assertTrue(same(book_after(kept, deeds[:cut]), (kept, ("again",) * cut)))
                self.assertTrue(same(book_after(end, deeds[cut:]), (end, ("again",) * (len(deeds) - cut))))

    def test_large_counts(self):
        book = begin_book([[(0, 10 ** 17)], []])
        self.tells(((((0, 1),), ((0, 10 ** 17 - 1),)), 1, ()), lambda deed: book_after(book, [deed])[0],
                   (0, "move", 0, 1, 0, 10 ** 17 - 1))

    def test_wrong_shelves(self):
        for wrong, at in (([[(0, 1)], [(0, 0)]], 1), ([[(0, 1), (0, 2)]], 0), ([[], None], 1), (None, -1), ("", -1),
                          ([[(0, True)]], 0), ([[(True, 1)]], 0), ([[(0, 1, 1)]], 0), ([[], [], [0]], 2), ({}, -1)):
            self.told(InvalidGoods, at, begin_book, wrong)

    def test_books_are_tuples(self):
        book = begin_book([[(0, 1)]])
        for wrong in (listed(book), list(book), ([((0, 1),)], 0, ()), (([(0, 1)],), 0, ()), ((([0, 1],),), 0, ()),
                      (book[0], 0, [])):
            self.told(InvalidStock, -1, book_after, wrong, ())
            self.told(InvalidStock, -1, book_after, wrong, None)

    def test_wrong_deeds(self):
        book = begin_book([[(0, 1)], []])
        right = (0, "in", 0, 0, 1)
        for wrong in odd_values() + [(1, "in", 2, 0, 1), (1, "move", 0, 0, 0, 1), (1, "out", 0, 0, 0), (1, "found", 0, 0, -1)]:
            self.told(InvalidDeeds, 1, book_after, book, [right, wrong, wrong])
            # Also where its number is known.
            self.told(InvalidDeeds, 1, book_after, book, [right, (0, "in", 2, 0, 1), wrong])


def units_of(goods, comings):
    """All single things: (moment, place, good), the stock ahead of all."""
    units = [(-1, -1, good) for good, count in goods for _ in range(count)]
    units += [(row[0], place, row[1]) for place, row in enumerate(comings) for _ in range(row[2])]
    return sorted(units)


def plain_gifts(goods, comings, wants):
    """[47]: the gifts, thing by thing, or None."""
    units = units_of(goods, comings)
    gifts = [[] for _ in wants]
    for (moment, good, count), at in sorted((tuple(want), at) for at, want in enumerate(wants)):
        for _ in range(count):
            unit = next((unit for unit in units if unit[2] == good and unit[0] <= moment), None)
            if unit is None:
                return None
            units.remove(unit)
            gifts[at].append(unit[1])
    return tuple(tuple((place, len(list(group))) for place, group in itertools.groupby(row)) for row in gifts)


def too_much(goods, comings, wants, good, moment):
    there = sum(count for own, count in goods if own == good)
    there += sum(row[2] for row in comings if row[1] == good and row[0] <= moment)
    return sum(row[2] for row in wants if row[1] == good and row[0] <= moment) > there


def is_promise(goods, comings, wants, value):
    """[47]: whether a value is a paper, straight from the document."""
    if not isinstance(value, tuple) or len(value) not in (2, 3) or not isinstance(value[0], str):
        return False
    if len(value) == 3:
        return value[0] == "tight" and all(is_int(number) and number >= 0 for number in value[1:]) and too_much(
            goods, comings, wants, *value[1:])
    if value[0] != "kept" or not isinstance(value[1], tuple) or len(value[1]) != len(wants):
        return False
    units = units_of(goods, comings)
    for (moment, good, count), gifts in zip(wants, value[1]):
        if not isinstance(gifts, tuple):
            return False
        for gift in gifts:
            if not isinstance(gift, tuple) or len(gift) != 2 or not all(is_int(number) for number in gift):
                return False
            if not -1 <= gift[0] < len(comings) or gift[1] < 1:
                return False
            for _ in range(gift[1]):
                unit = (-1 if gift[0] == -1 else comings[gift[0]][0], gift[0], good)
                if unit[0] > moment or unit not in units:
                    return False
                units.remove(unit)
        if sum(gift[1] for gift in gifts) != count:
            return False
    return True


def some_rows(chance, many, most):
    return tuple((chance.randrange(4), chance.randrange(2), chance.randint(1, most)) for _ in range(many))


def promises(seed, many):
    chance = random.Random(seed)
    for _ in range(many):
        goods = tuple((good, chance.randint(1, 4)) for good in chance.sample(range(3), chance.randint(0, 2)))
        yield goods, some_rows(chance, chance.randint(0, 4), 3), some_rows(chance, chance.randint(0, 4), 3)


class PromiseTest(PromiseCase):
    def test_what_came_first(self):
        comings = ((5, 0, 3), (2, 0, 1), (2, 1, 9), (2, 0, 2))
        self.tells(("kept", (((1, 1), (3, 1)), ((-1, 2),), ((3, 1), (0, 2)))), promise_paper, [(0, 2)], comings,
                   [(5, 0, 2), (1, 0, 2), (6, 0, 3)])

    def test_wants_of_the_same_moment(self):
        # By good, then count, then place.
        self.tells(("kept", (((-1, 1), (0, 2)), ((-1, 1),), ((-1, 1),), ((-1, 4),))), promise_paper,
                   [(0, 3), (1, 4)], [(3, 0, 2)], [(3, 0, 3), (3, 0, 1), (3, 0, 1), (3, 1, 4)])
        self.tells(("kept", (((-1, 1),), ((-1, 1),), ((0, 1),))), promise_paper, [(0, 2)], [(0, 0, 1)], [(1, 0, 1)] * 3)

    def test_comings_in_the_very_moment(self):
        self.tells(("kept", (((0, 1),),)), promise_paper, (), [(3, 0, 1)], [(3, 0, 1)])
        self.tells(("tight", 0, 2), promise_paper, (), [(3, 0, 1)], [(2, 0, 1)])
        self.holds_just_if(True, promise_holds, (), [(3, 0, 1)], [(3, 0, 1)], ("kept", (((0, 1),),)))
        self.holds_just_if(False, promise_holds, (), [(3, 0, 1)], [(2, 0, 1)], ("kept", (((0, 1),),)))

    def test_no_wants_and_wants_that_cannot_be_kept(self):
        self.tells(("kept", ()), promise_paper, (), (), ())
        self.tells(("kept", ()), promise_paper, [(0, 1)], [(0, 0, 1)], [])
        self.tells(("tight", 1, 4), promise_paper, [(0, 1)], [], [(9, 2, 1), (3, 0, 1), (7, 1, 1), (4, 1, 1)])
        self.tells(("tight", 0, 10 ** 20), promise_paper, [(0, 10 ** 17)], [], [(10 ** 20, 0, 10 ** 17 + 1)])

    def test_the_least_good_then_the_least_moment(self):
        self.tells(("tight", 1, 5), promise_paper, [(1, 1)], [(6, 1, 9)], [(0, 2, 1), (5, 1, 1), (4, 1, 1), (7, 1, 9)])

    def test_other_papers(self):
        kinds = set()
        for goods, comings, wants in promises(3, 600):
            paper = promise_paper(goods, comings, wants)
            self.assertTrue(is_tupled(paper))
            gifts = plain_gifts(goods, comings, wants)
            tight = [(good, moment) for good in range(4) for moment in range(6)
                     if too_much(goods, comings, wants, good, moment)]
            self.assertEqual(gifts is None, bool(tight))
            self.assertEqual(paper, ("kept", gifts) if gifts is not None else ("tight",) + tight[0])
            self.holds_just_if(True, promise_holds, goods, comings, wants, paper)
            for good, moment in itertools.product(range(4), range(6)):
                self.holds_just_if((good, moment) in tight, promise_holds, goods, comings, wants, ("tight", good, moment))
            kinds.add(paper[0])
            self.tells(paper, promise_paper, listed(goods), listed(comings), listed(wants))
        self.assertEqual(kinds, {"kept", "tight"})

    def test_changed_papers(self):
        for goods, comings, wants in promises(4, 120):
            for value in changed_a_little(promise_paper(goods, comings, wants)):
                self.holds_just_if(is_promise(goods, comings, wants, value), promise_holds, goods, comings, wants, value)

    def test_any_gifts_in_time(self):
        chance = random.Random(5)
        held = 0
        for goods, comings, wants in promises(6, 800):
            for _ in range(10):
                gifts = tuple(tuple((chance.randint(-1, len(comings)), chance.randint(1, 2)) for _ in range(
                    chance.randint(1, 2))) for _ in wants)
                expected = is_promise(goods, comings, wants, ("kept", gifts))
                self.holds_just_if(expected, promise_holds, goods, comings, wants, ("kept", gifts))
                held += expected and len(wants) > 0
        self.assertGreater(held, 50)

    def test_a_place_also_twice(self):
        goods, comings, wants = ((0, 3),), ((1, 0, 2),), ((2, 0, 4),)
        for gifts, expected in ((((-1, 1), (0, 1), (-1, 2)), True), (((0, 2), (-1, 2)), True), (((-1, 2), (-1, 2)), False),
                                (((-1, 3), (0, 1)), True), (((-1, 3),), False), (((-1, 3), (0, 2)), False),
                                (((-1, 4),), False), (((-1, 3), (1, 1)), False), (((-1, 3), (-2, 1)), False),
                                (((-1, 3), (0, 1), (0, 0)), False), (((-1, 3), (False, 1)), False),
                                (((-1, 3), (0, True)), False), (((-1, 3), [0, 1]), False), ([(-1, 3), (0, 1)], False),
                                (((-1, 3), (0, 2), (0, -1)), False), (((-1, 3), (0, 1, 1)), False)):
            self.holds_just_if(expected, promise_holds, goods, comings, wants, ("kept", (gifts,)))

    def test_earliest_moment(self):
        comings = ((3, 0, 2), (5, 0, 1), (4, 1, 9))
        for wants, good, count, moment in (((), 0, 1, 0), ((), 0, 2, 3), ((), 0, 3, 3), ((), 0, 4, 5), ((), 0, 5, None),
                                           ((), 1, 9, 4), ((), 1, 10, None), ((), 2, 1, None), (((9, 0, 1),), 0, 3, 3), (((9, 0, 2),), 0, 3, None),
                                           (((9, 0, 1),), 0, 1, 0), (((9, 0, 3),), 0, 1, 0), (((9, 0, 4),), 0, 1, None),
                                           (((0, 0, 1),), 0, 1, 3), (((0, 0, 2),), 0, 1, None), (((0, 0, 2),), 1, 1, None),
                                           (((0, 2, 1),), 0, 1, None), (((3, 0, 3),), 0, 1, 5)):
            self.tells(moment, earliest_moment, [(0, 1)], comings, wants, good, count)

    def test_earliest_moment_by_all_moments(self):
        for goods, comings, wants in promises(7, 300):
            for good, count in itertools.product(range(3), range(1, 5)):
                can = [moment for moment in range(6)
                       if plain_gifts(goods, comings, wants + ((moment, good, count),)) is not None]
                self.tells(can[0] if can else None, earliest_moment, goods, comings, wants, good, count)

    def test_the_order_of_errors(self):
        for wrong in odd_values():
            if wrong in ((), []):
                continue
            self.told(InvalidGoods, -1, promise_paper, wrong, wrong, wrong)
            at = 0 if isinstance(wrong, (list, tuple)) else -1
            self.told(InvalidComings, at, promise_paper, [], wrong, wrong)
            self.told(InvalidWants, at, promise_paper, [], [(0, 0, 1)], wrong)
            self.told(InvalidWants, at, promise_holds, [], [(0, 0, 1)], wrong, wrong)
            self.told(InvalidWants, at, earliest_moment, [], [(0, 0, 1)], wrong, None, None)
        self.told(InvalidSize, "good", earliest_moment, [], [], [(0, 0, 1)], -1, 0)
        self.told(InvalidSize, "count", earliest_moment, [], [], [(0, 0, 1)], 0, 0)


def plain_till(lots, lines):
    """[48]: the gifts for each line in its turn, thing by thing, or None."""
    units = sorted((lot[1], place) for place, lot in enumerate(lots) for _ in range(lot[2]))
    given = []
    for good, day, count in lines:
        fitting = [unit for unit in units if unit[0] >= day and lots[unit[1]][0] == good][:count]
        if len(fitting) < count:
            return None
        for unit in fitting:
            units.remove(unit)
        places = [place for _, place in fitting]
        given.append(tuple((place, places.count(place)) for place in sorted(set(places))))
    return tuple(given)


def is_too_much(lots, lines, good, day):
    return sum(row[2] for row in lines if row[0] == good and row[1] >= day) > sum(
        row[2] for row in lots if row[0] == good and row[1] >= day)


def is_till(lots, lines, value):
    """[48]: whether a value is a paper, straight from the document."""
    if not isinstance(value, tuple) or len(value) not in (2, 3) or not isinstance(value[0], str):
        return False
    if len(value) == 3:
        return value[0] == "short" and all(is_int(number) and number >= 0 for number in value[1:]) and is_too_much(
            lots, lines, *value[1:])
    if value[0] != "given" or not isinstance(value[1], tuple) or len(value[1]) != len(lines):
        return False
    left = [lot[2] for lot in lots]
    for (good, day, count), gifts in zip(lines, value[1]):
        if not isinstance(gifts, tuple):
            return False
        for gift in gifts:
            if not isinstance(gift, tuple) or len(gift) != 2 or not all(is_int(number) for number in gift):
                return False
            if not is_below(gift[0], len(lots)) or not 1 <= gift[1] <= left[gift[0]]:
                return False
            if lots[gift[0]][0] != good or lots[gift[0]][1] < day:
                return False
            left[gift[0]] -= gift[1]
        if not is_rising([gift[0] for gift in gifts]) or sum(gift[1] for gift in gifts) != count:
            return False
    return True


def some_lots(seed, many):
    chance = random.Random(seed)
    for _ in range(many):
        rows = [tuple((chance.randrange(2), chance.randrange(4), chance.randint(1, 3)) for _ in range(chance.randint(0, most)))
                for most in (5, 3)]
        yield rows[0], rows[1]


def all_gifts(lots, line):
    """All gifts for a line, ascending."""
    fitting = [(place, lot[2]) for place, lot in enumerate(lots) if lot[0] == line[0] and lot[1] >= line[1]]
    for counts in itertools.product(*[range(most + 1) for _, most in fitting]):
        if sum(counts) == line[2]:
            yield tuple((place, count) for (place, _), count in zip(fitting, counts) if count)


def taken(lots, gifts):
    counts = dict(gifts)
    return [(good, day, count - counts.get(place, 0)) for place, (good, day, count) in enumerate(lots)]


def do_lots_do(lots, line):
    """Whether what is left of lots is enough for a line."""
    return sum(lot[2] for lot in lots if lot[0] == line[0] and lot[1] >= line[1]) >= line[2]


class TillTest(PromiseCase):
    def test_just_good_enough(self):
        lots = ((1, 9, 4), (1, 5, 2), (2, 5, 9), (1, 5, 1), (1, 4, 7))
        for line, gifts in (((1, 5, 1), ((1, 1),)), ((1, 5, 3), ((1, 2), (3, 1))), ((1, 5, 4), ((0, 1), (1, 2), (3, 1))),
                            ((1, 5, 7), ((0, 4), (1, 2), (3, 1))), ((1, 5, 8), None), ((1, 6, 1), ((0, 1),)),
                            ((1, 9, 4), ((0, 4),)), ((1, 10, 1), None), ((3, 0, 1), None), ((2, 0, 9), ((2, 9),)),
                            ((1, 0, 8), ((1, 1), (4, 7)))):
            self.tells(gifts, give_till, lots, line)
            self.tells(gifts, give_till, listed(lots), listed(line))
        self.tells(None, give_till, (), (0, 0, 1))

    def test_lots_of_the_same_day_by_places(self):
        self.tells(((0, 1), (1, 1)), give_till, [(0, 3, 1), (0, 3, 1), (0, 3, 1)], (0, 3, 2))

    def test_each_line_in_its_turn(self):
        lots = ((0, 3, 2), (0, 5, 2))
        self.tells(("given", (((0, 1),), ((0, 1), (1, 1)), ((1, 1),))), till_paper, lots, [(0, 1, 1), (0, 3, 2), (0, 4, 1)])
        self.tells(("given", (((1, 1),), ((0, 2), (1, 1)))), till_paper, lots, [(0, 4, 1), (0, 3, 3)])
        self.tells(("given", (((0, 2),), ((1, 2),))), till_paper, lots, [(0, 3, 2)] * 2)
        self.tells(("given", ()), till_paper, lots, ())
        self.tells(("given", ()), till_paper, (), [])

    def test_the_least_from_which_on_too_much_is_wanted(self):
        lots = ((0, 3, 2), (0, 5, 2))
        self.tells(("short", 0, 3), till_paper, lots, [(0, 4, 3), (0, 3, 2), (1, 0, 1)])
        self.tells(("short", 0, 4), till_paper, lots, [(0, 4, 3), (1, 0, 1), (0, 3, 1)])
        self.tells(("short", 1, 2), till_paper, lots, [(1, 7, 1), (1, 2, 1), (0, 3, 4)])
        self.holds_just_if(True, till_holds, lots, [(1, 7, 1)], ("short", 1, 0))
        self.holds_just_if(True, till_holds, lots, [(1, 7, 1)], ("short", 1, 7))
        self.holds_just_if(False, till_holds, lots, [(1, 7, 1)], ("short", 1, 8))
        self.holds_just_if(False, till_holds, lots, [(1, 7, 1)], ("short", 1, -1))
        self.holds_just_if(False, till_holds, lots, [(1, 7, 1)], ("short", True, 7))

    def test_other_papers(self):
        kinds = set()
        for lots, lines in some_lots(1, 600):
            paper = till_paper(lots, lines)
            self.assertTrue(is_tupled(paper))
            given = plain_till(lots, lines)
            pairs = sorted({line[:2] for line in lines if is_too_much(lots, lines, *line[:2])})
            self.assertEqual(given is None, bool(pairs))
            self.assertEqual(paper, ("given", given) if given is not None else ("short",) + pairs[0])
            self.holds_just_if(True, till_holds, lots, lines, paper)
            for good, day in itertools.product(range(3), range(6)):
                expected = is_too_much(lots, lines, good, day)
                self.holds_just_if(expected, till_holds, lots, lines, ("short", good, day))
                self.assertFalse(expected and given is not None)
            if len(lines) == 1:
                self.tells(given and given[0], give_till, lots, lines[0])
            self.tells(paper, till_paper, listed(lots), listed(lines))
            kinds.add(paper[0])
        self.assertEqual(kinds, {"given", "short"})

    def test_any_gifts_that_are_left(self):
        for lots, lines in some_lots(2, 200):
            rows = [list(all_gifts(lots, line))[:6] for line in lines]
            for gifts in itertools.product(*rows):
                self.holds_just_if(is_till(lots, lines, ("given", gifts)), till_holds, lots, lines, ("given", gifts))

    def test_changed_papers(self):
        for lots, lines in some_lots(3, 120):
            for value in changed_a_little(till_paper(lots, lines)):
                self.holds_just_if(is_till(lots, lines, value), till_holds, lots, lines, value)

    def test_gifts_ascend(self):
        lots, line = ((0, 3, 2), (0, 3, 2)), (0, 3, 3)
        for gifts, expected in ((((0, 1), (1, 2)), True), (((0, 2), (1, 1)), True), (((1, 2), (0, 1)), False),
                                (((0, 3),), False), (((0, 2), (1, 2)), False), (((0, 2), (1, 0)), False), ((), False),
                                ([(0, 1), (1, 2)], False), (([0, 1], [1, 2]), False), (((False, 1), (1, 2)), False)):
            self.holds_just_if(expected, till_holds, lots, (line,), ("given", (gifts,)))
            if not expected:
                self.told(InvalidLines, -1, spoilt_line, lots, line, gifts)

    def test_spoilt_line(self):
        lots, line = ((0, 3, 2), (0, 5, 2), (1, 4, 9)), (0, 1, 2)
        self.tells(None, spoilt_line, lots, line, ((0, 2),))
        self.tells((0, 5, 2), spoilt_line, lots, line, ((0, 1), (1, 1)))
        self.tells((0, 5, 2), spoilt_line, lots, line, ((1, 2),))
        self.tells(None, spoilt_line, ((0, 3, 1), (0, 3, 1)), (0, 3, 1), ((1, 1),))
        self.tells((0, 5, 3), spoilt_line, ((0, 3, 1), (0, 7, 2), (0, 5, 1)), (0, 0, 1), ((1, 1),))

    def test_spoilt_lines_of_all_gifts(self):
        spoilt = 0
        for lots, lines in some_lots(4, 400):
            for line in lines:
                if give_till(lots, line) is None:
                    continue
                best = taken(lots, give_till(lots, line))
                for gifts in all_gifts(lots, line):
                    told = spoilt_line(lots, line, gifts)
                    left = taken(lots, gifts)
                    self.check_spoilt(lots, line[0], best, left, told)
                    spoilt += told is not None
        self.assertGreater(spoilt, 100)

    def check_spoilt(self, lots, good, best, left, told):
        later = [(good, day, count) for day in range(6) for count in range(1, 16)]
        missed = [line for line in later if do_lots_do(best, line) and not do_lots_do(left, line)]
        # Whatever can be had behind gifts can be had behind those of give_till.
        self.assertTrue(all(do_lots_do(best, line) for line in later if do_lots_do(left, line)))
        self.assertEqual(told is None, missed == [])
        if told is not None:
            self.assertIn(told, missed)
            days = [day for day in sorted(lot[1] for lot in lots if lot[0] == good)
                    if any(line[1] == day for line in missed)]
            self.assertEqual(told, (good, days[0], max(line[2] for line in missed if line[1] == days[0])))

    def test_the_order_of_errors(self):
        lots, line = ((0, 3, 2),), (0, 3, 1)
        for wrong in odd_values():
            if wrong in ((), []):
                continue
            at = 0 if isinstance(wrong, (list, tuple)) else -1
            for call in (give_till, till_paper):
                self.told(InvalidLots, at, call, wrong, wrong)
            self.told(InvalidLots, at, till_holds, wrong, wrong, None)
            self.told(InvalidLots, at, spoilt_line, wrong, wrong, wrong)
            self.told(InvalidLines, 0, give_till, lots, wrong)
            self.told(InvalidLines, at, till_paper, lots, wrong)
            self.told(InvalidLines, at, till_holds, lots, wrong, None)
            self.told(InvalidLines, 0, spoilt_line, lots, wrong, wrong)
            self.told(InvalidLines, -1, spoilt_line, lots, line, wrong)
        self.told(InvalidLines, -1, spoilt_line, lots, (0, 4, 1), ((0, 1),))
        self.told(InvalidLines, 2, till_paper, lots, (line, line, (0, 3, 0)))


if __name__ == "__main__":
    unittest.main()
