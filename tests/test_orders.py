"""[49]: the fewest shelves that have all that is wanted."""

import itertools
import random
import unittest

from nobodymeets.errors import InvalidGoods, InvalidSize, Refused
from nobodymeets.orders import pairs_hold, pairs_paper, wave_holds, wave_paper
from tests.helpers import PromiseCase, changed_a_little, is_below, is_int, is_rising, is_tupled, listed, odd_values


def enough_knots(shelves):
    return (len(shelves) + 1) * 2 ** (len(shelves) + 1)


def there_are(shelves, chosen, good):
    return sum(dict(shelves[shelf]).get(good, 0) for shelf in chosen)


def have_all(shelves, wanted, chosen):
    return all(there_are(shelves, chosen, good) >= count for good, count in wanted)


def all_lots(many):
    return [lot for size in range(many + 1) for lot in itertools.combinations(range(many), size)]


def fewest(shelves, wanted):
    """The size of the fewest shelves that have all wanted, or None."""
    return next((len(lot) for lot in all_lots(len(shelves)) if have_all(shelves, wanted, lot)), None)


def is_tree(shelves, wanted, most, chosen, barred, value):
    """Whether a value is a tree by which so many shelves don't do, straight from the document."""
    if not isinstance(value, tuple) or len(value) not in (2, 4) or not isinstance(value[0], str):
        return False
    if len(value) == 2:
        if value[0] != "lacks" or not is_int(value[1]) or value[1] not in dict(wanted):
            return False
        others = sorted((there_are(shelves, (shelf,), value[1]) for shelf in range(len(shelves))
                         if shelf not in chosen | barred), reverse=True)
        best = sum(others[:most - len(chosen)])
        return there_are(shelves, chosen, value[1]) + best < dict(wanted)[value[1]]
    if value[0] != "case" or len(chosen) >= most or not is_below(value[1], len(shelves)) or value[1] in chosen | barred:
        return False
    return is_tree(shelves, wanted, most, chosen | {value[1]}, barred, value[2]) and is_tree(
        shelves, wanted, most, chosen, barred | {value[1]}, value[3])


def is_lot(value, many):
    return isinstance(value, tuple) and all(is_below(number, many) for number in value) and is_rising(value)


def is_wave(shelves, wanted, value):
    """[49]: whether a value is a paper, straight from the document."""
    if not isinstance(value, tuple) or len(value) not in (2, 3) or not isinstance(value[0], str):
        return False
    if len(value) == 2:
        return value[0] == "lacks" and is_int(value[1]) and value[1] in dict(wanted) and there_are(
            shelves, range(len(shelves)), value[1]) < dict(wanted)[value[1]]
    if value[0] != "fewest" or not is_lot(value[1], len(shelves)) or not have_all(shelves, wanted, value[1]):
        return False
    if value[1] == ():
        return value[2] is None
    return is_tree(shelves, wanted, len(value[1]) - 1, frozenset(), frozenset(), value[2])


def some_goods(chance, most, count):
    return tuple((good, chance.randint(1, count)) for good in sorted(chance.sample(range(6), chance.randint(0, most))))


def waves(seed, many, most=5):
    chance = random.Random(seed)
    for _ in range(many):
        shelves = tuple(some_goods(chance, 4, 3) for _ in range(chance.randint(0, most)))
        wanted = some_goods(chance, 3, 4)
        if chance.random() < 0.7:
            # Mostly so much that all of it is there.
            wanted = tuple((good, min(count, there_are(shelves, range(len(shelves)), good))) for good, count in wanted)
            wanted = tuple(pair for pair in wanted if pair[1])
        yield shelves, wanted


class WaveTest(PromiseCase):
    def test_no_wanted_goods(self):
        for shelves in ((), ((),), (((0, 1),), ((1, 1),))):
            self.tells(("fewest", (), None), wave_paper, shelves, (), 1)
            self.holds_just_if(True, wave_holds, shelves, (), ("fewest", (), None))
            for value in (("fewest", (), ()), ("fewest", (), ("lacks", 0)), ("lacks", 0), ("bound",), ("fewest", ()),
                          ("fewest", (0,), ("lacks", 0)), ("fewest", (0,), None), ("fewest", (), False)):
                self.holds_just_if(False, wave_holds, shelves, (), value)

    def test_goods_of_which_there_is_too_little(self):
        self.tells(("lacks", 3), wave_paper, [[(0, 5)]], [(3, 1)], 1)
        self.tells(("lacks", 3), wave_paper, (), [(3, 1), (4, 1)], 1)
        self.tells(("lacks", 1), wave_paper, [[(0, 5), (1, 2)], [(1, 2)]], [(2, 1), (1, 5), (0, 5)], 400)
        for good, expected in ((1, True), (2, True), (0, False), (3, False), (True, False), ("1", False), (None, False),
                               ((1,), False), ([1], False), (-1, False)):
            self.holds_just_if(expected, wave_holds, [[(0, 5), (1, 2)], [(1, 2)]], [(2, 1), (1, 5), (0, 5)],
                               ("lacks", good))

    def test_one_shelf(self):
        self.tells(("fewest", (1,), ("lacks", 0)), wave_paper, [[(0, 1)], [(0, 2)]], [(0, 2)], 400)
        self.holds_just_if(True, wave_holds, [[(0, 2)], [(0, 2)]], [(0, 2)], ("fewest", (1,), ("lacks", 0)))
        self.holds_just_if(False, wave_holds, [[(0, 2)], [(0, 2)]], [(0, 2)], ("fewest", (0, 1), ("lacks", 0)))
        self.holds_just_if(False, wave_holds, [[(0, 2)], [(0, 2)]], [(0, 2)],
                           ("fewest", (0, 1), ("case", 0, ("lacks", 0), ("lacks", 0))))

    def test_papers(self):
        kinds = set()
        for shelves, wanted in itertools.chain(waves(1, 400), waves(2, 60, 7)):
            paper = wave_paper(shelves, wanted, enough_knots(shelves))
            least = fewest(shelves, wanted)
            self.assertTrue(is_tupled(paper) and is_wave(shelves, wanted, paper), (shelves, wanted, paper))
            self.holds_just_if(True, wave_holds, shelves, wanted, paper)
            if least is None:
                lacking = [good for good, count in wanted if there_are(shelves, range(len(shelves)), good) < count]
                self.assertEqual(paper, ("lacks", min(lacking)))
            else:
                self.assertEqual((paper[0], len(paper[1]), paper[2] is None), ("fewest", least, least == 0))
            self.tells(paper, wave_paper, listed(shelves), listed(wanted), enough_knots(shelves))
            self.tells(paper, wave_paper, [row[::-1] for row in shelves], wanted[::-1], enough_knots(shelves))
            kinds.add(least)
        self.assertTrue({None, 0, 1, 2, 3, 4} <= kinds)

    def test_too_few_knots(self):
        bound = 0
        for shelves, wanted in waves(3, 150):
            for knots in (1, 2, 3, 5, 8, 13, 21, 55, enough_knots(shelves) - 1):
                paper = wave_paper(shelves, wanted, knots)
                if paper == ("bound",):
                    self.assertLess(knots, enough_knots(shelves))
                    bound += 1
                else:
                    self.holds_just_if(True, wave_holds, shelves, wanted, paper)
                    self.assertEqual(paper, wave_paper(shelves, wanted, enough_knots(shelves)))
            self.assertNotEqual(wave_paper(shelves, wanted, enough_knots(shelves)), ("bound",))
            self.holds_just_if(False, wave_holds, shelves, wanted, ("bound",))
        self.assertGreater(bound, 50)

    def test_hard_waves_with_enough_knots(self):
        # Seven shelves that are all needed, or all but one, whichever way they are tried.
        for shelves, wanted, least in ((tuple(((good, 1),) for good in range(5)), tuple((good, 1) for good in range(5)), 5),
                                       ((((0, 1), (1, 1)),) * 7, ((0, 6), (1, 7)), 7), ((((0, 3), (1, 2)),) * 7, ((0, 13),), 5),
                                       ((((0, 3), (1, 2)),) * 7, ((0, 13), (1, 11)), 6)):
            paper = wave_paper(shelves, wanted, enough_knots(shelves))
            self.assertEqual((paper[0], len(paper[1])), ("fewest", least))
            self.holds_just_if(True, wave_holds, shelves, wanted, paper)

    def test_any_chosen_shelves_with_the_tree(self):
        for shelves, wanted in waves(4, 100):
            paper = wave_paper(shelves, wanted, enough_knots(shelves))
            if paper[0] == "fewest":
                for lot in all_lots(len(shelves)):
                    value = ("fewest", lot, paper[2])
                    self.holds_just_if(is_wave(shelves, wanted, value), wave_holds, shelves, wanted, value)

    def test_changed_papers(self):
        for shelves, wanted in waves(5, 60):
            for value in changed_a_little(wave_paper(shelves, wanted, enough_knots(shelves))):
                self.holds_just_if(is_wave(shelves, wanted, value), wave_holds, shelves, wanted, value)

    def random_tree(self, chance, many, depth):
        if depth == 0 or chance.random() < 0.3:
            return ("lacks", chance.randrange(3))
        return ("case", chance.randrange(many), self.random_tree(chance, many, depth - 1),
                self.random_tree(chance, many, depth - 1))

    def test_any_tree(self):
        chance = random.Random(6)
        shelves = (((0, 2), (1, 1)), ((0, 1), (1, 2)), ((2, 1),))
        wanted = ((0, 3), (1, 3), (2, 1))
        held = 0
        for _ in range(8000):
            value = ("fewest", (0, 1, 2), self.random_tree(chance, 3, 3))
            expected = is_wave(shelves, wanted, value)
            self.holds_just_if(expected, wave_holds, shelves, wanted, value)
            held += expected
        self.assertGreater(held, 20)

    def test_a_case_only_if_one_may_still_be_chosen(self):
        shelves, wanted = (((0, 1),), ((0, 1),), ((1, 1),)), ((0, 2),)
        for tree, expected in ((("lacks", 0), True), (("case", 2, ("lacks", 0), ("lacks", 0)), True),
                               (("case", 2, ("case", 0, ("lacks", 0), ("lacks", 0)), ("lacks", 0)), False),
                               (("case", 2, ("lacks", 0), ("case", 0, ("lacks", 0), ("lacks", 0))), True),
                               (("case", 2, ("lacks", 0), ("case", 2, ("lacks", 0), ("lacks", 0))), False),
                               (("case", 3, ("lacks", 0), ("lacks", 0)), False), (("lacks", 1), False),
                               (("case", 2, ("lacks", 0)), False), (["lacks", 0], False), (None, False), ((), False)):
            self.holds_just_if(expected, wave_holds, shelves, wanted, ("fewest", (0, 1), tree))

    def test_wrong_arguments(self):
        for wrong in odd_values():
            if wrong in ((), []):
                continue
            if wrong not in (((),), [[]]):
                at = 0 if isinstance(wrong, (list, tuple)) else -1
                for call, more in ((wave_paper, (wrong, wrong)), (wave_holds, (wrong, wrong)), (pairs_paper, (wrong,)),
                                   (pairs_hold, (wrong, wrong))):
                    self.told(InvalidGoods, at, call, wrong, *more)
            for call, more in ((wave_paper, (0,)), (wave_holds, (None,)), (pairs_paper, ()), (pairs_hold, (None,))):
                self.told(InvalidGoods, -1, call, [[(0, 1), (1, 1), (2, 1)]], wrong, *more)
            self.told(InvalidSize, "knots", wave_paper, (), [(0, 1)], wrong if wrong != 10 ** 7 else 0)
        self.told(InvalidSize, "knots", wave_paper, (), (), 0)
        self.told(InvalidSize, "knots", wave_paper, (), (), True)


def asked_by(goods, ties, lot):
    """As many shelves as a lot asks for."""
    left = [good for good in goods if good not in lot]
    odd = 0
    while left:
        piece = [left.pop()]
        for good in piece:
            more = [other for other in left if frozenset((good, other)) in ties]
            piece.extend(more)
            left = [other for other in left if other not in more]
        odd += len(piece) % 2
    twice = 2 * len(goods) - (len(goods) + len(lot) - odd)
    assert twice % 2 == 0
    return twice // 2


def ties_of(shelves, wanted):
    goods = [good for good, _ in wanted]
    rows = [frozenset(good for good, _ in shelf if good in goods) for shelf in shelves]
    return [row for row in rows if len(row) == 2]


def is_pairs(shelves, wanted, value):
    """[49]: whether a value is a paper of pairs, straight from the document."""
    goods = sorted(good for good, _ in wanted)
    if not isinstance(value, tuple) or len(value) != 2 or not is_lot(value[0], len(shelves)):
        return False
    if not isinstance(value[1], tuple) or not all(is_int(good) and good in goods for good in value[1]):
        return False
    return is_rising(value[1]) and have_all(shelves, wanted, value[0]) and len(value[0]) == asked_by(
        goods, ties_of(shelves, wanted), value[1])


def pair_waves(seed, many):
    """Shelves with two wanted goods at most, enough of each, and others that nobody wants."""
    chance = random.Random(seed)
    for _ in range(many):
        goods = sorted(chance.sample(range(9), chance.randint(0, 6)))
        wanted = tuple((good, chance.randint(1, 3)) for good in goods)
        shelves = []
        for _ in range(chance.randint(0, 6)):
            own = chance.sample(goods, min(len(goods), chance.choice((0, 1, 2, 2, 2))))
            shelf = [(good, dict(wanted)[good] + chance.randint(0, 2)) for good in own]
            shelves.append(tuple(sorted(shelf + [(20, 1)] * chance.randint(0, 1))))
        missing = [good for good in goods if not any(good in dict(shelf) for shelf in shelves)]
        yield tuple(shelves) + tuple(((good, 9),) for good in missing), wanted


class PairsTest(PromiseCase):
    def test_no_wanted_goods(self):
        self.tells(((), ()), pairs_paper, (), ())
        self.tells(((), ()), pairs_paper, [[(0, 1), (1, 1), (2, 1)]], ())
        self.holds_just_if(True, pairs_hold, [[(0, 1)]], (), ((), ()))
        self.holds_just_if(False, pairs_hold, [[(0, 1)]], (), ((0,), ()))

    def test_rings_and_stars(self):
        triangle = [[(0, 1), (1, 1)], [(1, 1), (2, 1)], [(0, 1), (2, 1)]]
        wanted = [(0, 1), (1, 1), (2, 1)]
        chosen, lot = pairs_paper(triangle, wanted)
        self.assertEqual((len(chosen), lot), (2, ()))
        star = [[(0, 1), (good, 1)] for good in (1, 2, 3)]
        self.tells(((0, 1, 2), (0,)), pairs_paper, star, [(0, 1), (1, 1), (2, 1), (3, 1)])
        self.assertEqual(pairs_paper([[(0, 1)], [(0, 1), (1, 1)]], [(0, 1), (1, 1)])[0], (1,))

    def test_papers(self):
        for shelves, wanted in pair_waves(1, 400):
            paper = pairs_paper(shelves, wanted)
            self.assertTrue(is_tupled(paper) and is_pairs(shelves, wanted, paper), (shelves, wanted, paper))
            self.assertEqual(len(paper[0]), fewest(shelves, wanted))
            self.holds_just_if(True, pairs_hold, shelves, wanted, paper)
            self.tells(paper, pairs_paper, listed(shelves), listed(wanted)[::-1])

    def test_lots_in_which_goods_hang_together_with_others_too(self):
        for ties, lot in ((((0, 1), (0, 2), (0, 5), (0, 3), (3, 4)), (0,)),
                          (((0, 1), (0, 2), (3, 4), (3, 5), (0, 3)), (0, 3)),
                          (((0, 1), (0, 2), (0, 3), (4, 5), (5, 6), (4, 6), (0, 4)), (0,)),
                          (((0, 1), (1, 2), (2, 3), (3, 0)), ())):
            shelves = tuple(tuple((good, 1) for good in tie) for tie in ties)
            wanted = tuple((good, 1) for good in sorted({good for tie in ties for good in tie}))
            chosen, told = pairs_paper(shelves, wanted)
            self.assertEqual(told, lot)
            self.assertEqual(len(chosen), fewest(shelves, wanted))
            self.assertTrue(is_pairs(shelves, wanted, (chosen, told)))
            self.holds_just_if(True, pairs_hold, shelves, wanted, (chosen, told))

    def test_no_fewer_do_than_any_lot_asks(self):
        for shelves, wanted in pair_waves(2, 60):
            goods = sorted(good for good, _ in wanted)
            asked = {}
            for size in range(len(goods) + 1):
                for lot in itertools.combinations(goods, size):
                    asked[lot] = asked_by(goods, ties_of(shelves, wanted), lot)
            self.assertEqual(max(asked.values()), fewest(shelves, wanted))
            for chosen in all_lots(len(shelves)):
                for lot, many in asked.items():
                    expected = have_all(shelves, wanted, chosen) and len(chosen) == many
                    self.holds_just_if(expected, pairs_hold, shelves, wanted, (chosen, lot))

    def test_changed_papers(self):
        for shelves, wanted in pair_waves(3, 80):
            for value in changed_a_little(pairs_paper(shelves, wanted)):
                self.holds_just_if(is_pairs(shelves, wanted, value), pairs_hold, shelves, wanted, value)

    def test_refused(self):
        wanted = ((1, 2), (3, 1), (4, 1), (7, 1))
        for shelves, at in (([[], [(1, 2), (3, 1), (4, 1)], [(1, 1)]], 1), ([[(0, 1)], [], [(1, 1)]], 2),
                            ([[(1, 1)], [(1, 2), (3, 1), (4, 1)]], 0), ([[(1, 9), (3, 9)], [(3, 9), (4, 1), (7, 1)]], 1),
                            ([[(1, 2), (3, 1)], []], 4), ([], 1), ([[(1, 2), (0, 1), (2, 1)], [(7, 1)]], 3),
                            ([[(1, 2), (3, 1)], [(4, 1), (9, 1)]], 7)):
            self.told(Refused, at, pairs_paper, shelves, wanted)
            for value in (None, ((), ()), ((0,), ())):
                self.told(Refused, at, pairs_hold, shelves, wanted, value)


if __name__ == "__main__":
    unittest.main()
