"""[50], [51]: stations, and what is carried to them."""

import itertools
import random
import unittest

from nobodymeets.errors import InvalidGoods, InvalidHomes, InvalidOrders, InvalidSize
from nobodymeets.stations import apart_orders, carries_fault, carries_serve, made_carries, row_carries
from tests.helpers import PromiseCase, changed_a_little, is_below, is_int, is_tupled, listed, odd_values, same


def wants_shelf(homes, order, shelf):
    return any(dict(homes)[good] == shelf for good, _ in order)


def do_serve(homes, orders, slots, pairs):
    """Whether each order, while open, sees each shelf it wants, straight from the document."""
    seen = {at: set() for at in range(len(orders))}
    for phase, shelf in pairs:
        for at in range(phase, min(phase + slots, len(orders))):
            seen[at].add(shelf)
    return all(dict(homes)[good] in seen[at] for at, order in enumerate(orders) for good, _ in order)


def is_serving(homes, orders, slots, value):
    if not isinstance(value, tuple):
        return False
    for pair in value:
        if not isinstance(pair, tuple) or len(pair) != 2 or not all(is_int(number) and number >= 0 for number in pair):
            return False
        if pair[0] >= len(orders) and pair[0] != 0:
            return False
    return do_serve(homes, orders, slots, value)


def some_stations(seed, many, most=5):
    chance = random.Random(seed)
    for _ in range(many):
        homes = tuple((good, chance.randrange(3)) for good in chance.sample(range(5), 4))
        goods = [good for good, _ in homes]
        orders = []
        for _ in range(chance.randint(0, most)):
            own = sorted(chance.sample(goods, chance.randint(0, 2)))
            orders.append(tuple((good, chance.randint(1, 3)) for good in own))
        yield homes, tuple(orders), chance.randint(1, 4)


def some_shelves(chance, homes, orders):
    """Shelves that mostly have just enough of what is wanted of them."""
    shelves = [{} for _ in range(3)]
    for good, shelf in homes:
        many = sum(dict(order).get(good, 0) for order in orders) + chance.choice((0, 0, 0, 0, 1, 2, -1))
        if many > 0:
            shelves[shelf][good] = many
        if chance.random() < 0.2:
            shelves[(shelf + 1) % 3][good] = 1
    return tuple(tuple(sorted(shelf.items())) for shelf in shelves)


class CarriesTest(PromiseCase):
    def test_no_orders(self):
        self.tells((), row_carries, [(0, 1)], (), 1)
        self.tells((), row_carries, (), [], 5)
        self.tells((), row_carries, (), [[], ()], 2)
        self.tells((), apart_orders, [(0, 1)], (), 1, 1)
        for value, expected in (((), True), (((0, 0),), True), (((0, 7), (0, 7)), True), (((1, 0),), False),
                                ([], False), (None, False), (((0, -1),), False), (((-1, 0),), False), (((0,),), False)):
            self.holds_just_if(expected, carries_serve, (), (), 3, value)

    def test_one_slot(self):
        homes, orders = [(0, 4), (1, 4), (2, 6)], [[(0, 1), (2, 1)], [(1, 1)], [], [(0, 1), (1, 1)]]
        self.tells(((0, 4), (0, 6), (1, 4), (3, 4)), row_carries, homes, orders, 1)
        self.tells((0, 1, 3), apart_orders, homes, orders, 1, 4)
        self.tells((0,), apart_orders, homes, orders, 1, 6)

    def test_as_late_as_the_first_order_allows(self):
        homes, orders = [(0, 4), (1, 6)], [[], [(0, 1)], [(0, 1), (1, 1)], [(0, 1)], [(0, 2)]]
        self.tells(((1, 4), (2, 6), (3, 4)), row_carries, homes, orders, 2)
        self.tells(((1, 4), (2, 6), (4, 4)), row_carries, homes, orders, 3)
        self.tells(((1, 4), (2, 6)), row_carries, homes, orders, 4)
        self.tells((1, 4), apart_orders, homes, orders, 3, 4)

    def test_more_slots_than_orders(self):
        homes, orders = [(0, 4), (1, 6)], [[(0, 1)], [(0, 1), (1, 1)]]
        self.tells(((0, 4), (1, 6)), row_carries, homes, orders, 5)
        self.holds_just_if(True, carries_serve, homes, orders, 5, ((0, 6), (0, 4)))
        self.holds_just_if(True, carries_serve, homes, orders, 10 ** 20, ((0, 6), (0, 4)))

    def test_a_shelf_that_no_order_wants(self):
        self.tells((), apart_orders, [(0, 4), (1, 6)], [[(0, 1)]], 2, 6)
        self.tells((), apart_orders, [(0, 4), (1, 6)], [[(0, 1)]], 2, 10 ** 9)

    def test_no_fewer_serve(self):
        for homes, orders, slots in some_stations(1, 150, 4):
            told = row_carries(homes, orders, slots)
            self.assertTrue(is_tupled(told) and list(told) == sorted(set(told)))
            self.holds_just_if(True, carries_serve, homes, orders, slots, told)
            for shelf in range(4):
                phases = apart_orders(homes, orders, slots, shelf)
                self.tells(tuple(phase for phase, own in told if own == shelf), apart_orders, homes, orders, slots, shelf)
                self.assertTrue(all(later - phase >= slots for phase, later in zip(phases, phases[1:])))
                self.assertTrue(all(wants_shelf(homes, orders[at], shelf) for at in phases))
                wanting = [order if wants_shelf(homes, order, shelf) else () for order in orders]
                wanting = [tuple(pair for pair in order if dict(homes)[pair[0]] == shelf) for order in wanting]
                for fewer in itertools.combinations(range(len(orders)), max(0, len(phases) - 1)):
                    if phases:
                        self.assertFalse(do_serve(homes, wanting, slots, [(phase, shelf) for phase in fewer]))

    def test_each_as_late_as_can_be(self):
        for homes, orders, slots in some_stations(2, 150, 4):
            told = row_carries(homes, orders, slots)
            for at, (phase, shelf) in enumerate(told):
                ahead = [pair for pair in told[:at]] + [pair for pair in told[at + 1:] if pair[1] != shelf]
                later = [(phase + 1 + more, shelf) for more in range(len(orders))]
                self.assertFalse(do_serve(homes, orders, slots, ahead + later))
            self.assertLessEqual(len(row_carries(homes, orders, slots + 1)), len(told))

    def test_changed_carries(self):
        for homes, orders, slots in some_stations(3, 100):
            for value in changed_a_little(row_carries(homes, orders, slots)):
                self.holds_just_if(is_serving(homes, orders, slots, value), carries_serve, homes, orders, slots, value)

    def test_any_carries_in_any_order(self):
        chance = random.Random(4)
        held = 0
        for homes, orders, slots in some_stations(5, 300):
            for _ in range(10):
                value = tuple((chance.randrange(6), chance.randrange(3)) for _ in range(chance.randint(0, 7)))
                expected = is_serving(homes, orders, slots, value)
                self.holds_just_if(expected, carries_serve, homes, orders, slots, value)
                held += expected
            told = row_carries(homes, orders, slots)
            self.holds_just_if(True, carries_serve, homes, orders, slots, told[::-1] + told)
        self.assertGreater(held, 50)

    def test_lists(self):
        for homes, orders, slots in some_stations(6, 50):
            self.tells(row_carries(homes, orders, slots), row_carries, listed(homes), listed(orders), slots)
            self.tells(row_carries(homes, orders, slots), row_carries, homes[::-1], [row[::-1] for row in orders], slots)
            self.holds_just_if(False, carries_serve, homes, orders, slots, listed(row_carries(homes, orders, slots)))

    def test_wrong_arguments(self):
        homes, orders = [(0, 1), (2, 0)], [[(0, 1)], [(2, 1), (0, 2)]]
        calls = ((row_carries, ()), (apart_orders, (None,)), (carries_serve, (None,)))
        for call, more in calls:
            for wrong, at in ((None, -1), ("", -1), ([(0, 1), (0, 1)], 1), ([(0, -1)], 0), ([(-1, 0)], 0), ([(0, True)], 0),
                              ([(False, 1)], 0), ([(0, 1), (1, 1), (2, 1, 0)], 2), ([(0, 1), (1, 1), 2], 2)):
                self.told(InvalidHomes, at, call, wrong, None, None, *more)
            for wrong, at in ((None, -1), ("", -1), ([[(0, 1)], [(0, 0)]], 1), ([[(0, 1), (0, 1)]], 0), ([[(1, 1)], None], 0),
                              ([[(0, 1)], [(0, 1), (1, 1)], None], 1), ([[], None], 1), ([[(True, 1)]], 0), ([0], 0)):
                self.told(InvalidOrders, at, call, homes, wrong, None, *more)
            for wrong in odd_values() + [0]:
                if not is_int(wrong) or wrong < 1:
                    self.told(InvalidSize, "slots", call, homes, orders, wrong, *more)
        for wrong in odd_values():
            if not is_int(wrong) or wrong < 0:
                self.told(InvalidSize, "shelf", apart_orders, homes, orders, 1, wrong)


def plain_fault(shelves, orders, slots, value):
    """[51]: what is first wrong, straight from the document."""
    if not isinstance(value, tuple):
        return (-1, "form")
    stores, left = [dict(shelf) for shelf in shelves], [dict(order) for order in orders]
    ahead = 0
    for at, carry in enumerate(value):
        if not isinstance(carry, tuple) or len(carry) != 3 or not isinstance(carry[2], tuple):
            return (at, "form")
        if not is_below(carry[0], len(orders)) or not is_below(carry[1], len(shelves)):
            return (at, "form")
        for gift in carry[2]:
            if not isinstance(gift, tuple) or len(gift) != 3 or not all(is_int(number) for number in gift):
                return (at, "form")
            if not is_below(gift[0], len(orders)) or gift[1] < 0 or gift[2] < 1:
                return (at, "form")
        phase, shelf, gifts = carry
        if phase < ahead:
            return (at, "phase")
        ahead = phase
        for order, good, count in gifts:
            if order not in range(phase, phase + slots):
                return (at, "closed")
            if left[order].get(good, 0) < count:
                return (at, "wish")
            if stores[shelf].get(good, 0) < count:
                return (at, "short")
            left[order][good] -= count
            stores[shelf][good] -= count
    return next(((at, "left") for at, order in enumerate(left) if any(order.values())), None)


class MadeTest(PromiseCase):
    def test_made(self):
        shelves = [[(0, 9), (1, 3)], [(2, 2)], []]
        homes = [(2, 1), (0, 0), (1, 0), (5, 2)]
        orders = [[(1, 1)], [(2, 2), (0, 1), (1, 2)], [(0, 4)]]
        self.tells(("carries", ((0, 0, ((0, 1, 1), (1, 0, 1), (1, 1, 2))), (1, 1, ((1, 2, 2),)), (2, 0, ((2, 0, 4),)))),
                   made_carries, shelves, homes, orders, 2)
        self.tells(("carries", ((0, 0, ((0, 1, 1),)), (1, 0, ((1, 0, 1), (1, 1, 2))), (1, 1, ((1, 2, 2),)),
                                (2, 0, ((2, 0, 4),)))), made_carries, shelves, homes, orders, 1)
        self.tells(("carries", ()), made_carries, shelves, homes, (), 1)
        self.tells(("carries", ()), made_carries, (), (), (), 1)
        self.tells(("carries", ()), made_carries, (), (), [()], 1)

    def test_homes_that_have_too_little(self):
        shelves, homes = [[(0, 2), (3, 9)], [(3, 1)]], [(3, 1), (0, 0), (4, 1)]
        self.tells(("lacks", 0, 3, 2), made_carries, shelves, homes, [[(3, 2), (0, 1)], [(0, 2)]], 1)
        self.tells(("lacks", 3, 2, 1), made_carries, shelves, homes, [[(3, 1)], [(4, 1), (3, 1)], [(0, 2)]], 1)
        self.tells(("lacks", 4, 1, 0), made_carries, shelves, homes, [[(4, 1)]], 1)
        self.tells(("lacks", 4, 10 ** 17, 0), made_carries, shelves, homes, [[(4, 10 ** 17)]], 3)

    def test_other_made_carries(self):
        chance = random.Random(7)
        kinds = set()
        for homes, orders, slots in some_stations(8, 500):
            shelves = some_shelves(chance, homes, orders)
            told = made_carries(shelves, homes, orders, slots)
            self.assertTrue(is_tupled(told))
            lacking = []
            for good, shelf in sorted(homes):
                wanted = sum(dict(order).get(good, 0) for order in orders)
                there = dict(shelves[shelf]).get(good, 0)
                if there < wanted:
                    lacking.append(("lacks", good, wanted, there))
            if lacking:
                self.assertEqual(told, lacking[0])
            else:
                self.assertEqual(told[0], "carries")
                self.assertEqual(tuple(carry[:2] for carry in told[1]), row_carries(homes, orders, slots))
                self.assertIsNone(carries_fault(shelves, orders, slots, told[1]))
                self.assertIsNone(plain_fault(shelves, orders, slots, told[1]))
                for phase, shelf, gifts in told[1]:
                    self.assertTrue(gifts and list(gifts) == sorted(gifts))
                    self.assertTrue(all(dict(homes)[good] == shelf for _, good, _ in gifts))
            kinds.add(told[0])
            self.tells(told, made_carries, listed(shelves), listed(homes), listed(orders), slots)
        self.assertEqual(kinds, {"lacks", "carries"})

    def test_wrong_arguments(self):
        shelves, homes, orders = [[(0, 1)]], [(0, 0), (7, 0)], [[(0, 1)]]
        self.told(InvalidGoods, 0, made_carries, [[(0, 0)]], None, None, None)
        self.told(InvalidHomes, 1, made_carries, shelves, [(0, 3), (0, 0)], None, None)
        self.told(InvalidOrders, 0, made_carries, shelves, [(0, 1)], [[(1, 1)]], None)
        self.told(InvalidSize, "slots", made_carries, shelves, [(0, 1)], orders, 0)
        self.told(InvalidHomes, -1, made_carries, shelves, [(0, 1)], orders, 1)
        self.told(InvalidHomes, -1, made_carries, shelves, [(0, 0), (7, 1)], orders, 1)
        self.told(InvalidHomes, -1, made_carries, (), [(0, 0)], [], 1)
        self.tells(("carries", ((0, 0, ((0, 0, 1),)),)), made_carries, shelves, homes, orders, 1)


class FaultTest(PromiseCase):
    shelves = (((0, 3), (1, 1)), ((0, 9),))
    orders = (((0, 2),), ((0, 1), (1, 1)), ((1, 1),))

    def test_each_word(self):
        good = ((0, 0, ((0, 0, 2),)), (1, 0, ((1, 0, 1), (1, 1, 1))))
        for value, told in (
                (None, (-1, "form")), ([], (-1, "form")), ((None,), (0, "form")), (((0, 0),), (0, "form")),
                (((0, 0, ()), (3, 0, ())), (1, "form")), (((0, 2, ()),), (0, "form")), (((0, 0, []),), (0, "form")),
                (((0, 0, ((0, 0, 0),)),), (0, "form")), (((0, 0, ((3, 0, 1),)),), (0, "form")),
                (((0, 0, ((0, -1, 1),)),), (0, "form")), (((0, 0, ([0, 0, 1],)),), (0, "form")),
                (((0, True, ()),), (0, "form")), (((-1, 0, ()),), (0, "form")), (((0, 0, ((0, 0, 1, 1),)),), (0, "form")),
                (((1, 0, ()), (0, 0, ())), (1, "phase")), (((1, 0, ()), (0, 0, ((2, 7, 9),))), (1, "phase")),
                (((1, 0, ()), (0, 0, ((3, 7, 9),))), (1, "form")), (((0, 0, ((1, 0, 1),)),), (0, "closed")),
                (((1, 0, ((0, 0, 1),)),), (0, "closed")), (((1, 0, ((0, 7, 9),)),), (0, "closed")),
                (((0, 0, ((0, 0, 3),)),), (0, "wish")), (((0, 0, ((0, 1, 1),)),), (0, "wish")),
                (((0, 0, ((0, 0, 1), (0, 0, 2))),), (0, "wish")), (((0, 1, ((0, 0, 2), (0, 0, 1))),), (0, "wish")),
                (((1, 1, ((1, 1, 1),)),), (0, "short")), (((1, 1, ((1, 1, 2),)),), (0, "wish")),
                (good, (2, "left")), (good + ((2, 0, ((2, 1, 1),)),), (2, "short")), ((), (0, "left")),
                (good[:1], (1, "left")), (((0, 0, ()),) * 3, (0, "left")), (good + (None,), (2, "form")),
                (((0, 0, ((0, 0, 1), (1, 0, 1), (0, 9, 9))),), (0, "closed"))):
            self.tells(told, carries_fault, self.shelves, self.orders, 1, value)
            self.assertEqual(plain_fault(self.shelves, self.orders, 1, value), told)
        more = (((0, 3), (1, 2)), ((0, 9),))
        self.tells(None, carries_fault, more, self.orders, 1, good + ((2, 0, ((2, 1, 1),)),))
        self.tells(None, carries_fault, more, self.orders, 3, ((0, 0, ((2, 1, 1), (1, 0, 1), (1, 1, 1), (0, 0, 2))),))
        self.tells(None, carries_fault, more, self.orders, 2, ((0, 1, ((0, 0, 1), (1, 0, 1), (0, 0, 1))), (1, 0, ()),
                                                             (1, 0, ((2, 1, 1), (1, 1, 1)))))

    def test_no_orders(self):
        self.tells(None, carries_fault, (), (), 1, ())
        self.tells(None, carries_fault, (), [()], 1, ())
        self.tells(None, carries_fault, [()], [()], 1, ((0, 0, ()),))
        self.tells((0, "form"), carries_fault, [()], (), 1, ((1, 0, ()),))

    def test_changed_carries(self):
        chance = random.Random(9)
        words = set()
        for homes, orders, slots in some_stations(10, 150):
            shelves = some_shelves(chance, homes, orders)
            told = made_carries(shelves, homes, orders, slots)
            for value in changed_a_little(told[1] if told[0] == "carries" else ((0, 0, ((0, 0, 1),)),)):
                fault = carries_fault(shelves, orders, slots, value)
                self.assertTrue(same(fault, plain_fault(shelves, orders, slots, value)), (orders, slots, value, fault))
                words.add(fault and fault[1])
        self.assertEqual(words, {None, "form", "phase", "closed", "wish", "short", "left"})

    def test_other_carries(self):
        chance = random.Random(11)
        words = set()
        for homes, orders, slots in some_stations(12, 2000, 3):
            shelves = some_shelves(chance, homes, orders)
            value = tuple(sorted(
                (chance.randrange(3), chance.randrange(3), tuple(
                    (chance.randrange(3), chance.randrange(5), chance.randint(1, 2)) for _ in range(chance.randint(0, 2))))
                for _ in range(chance.randint(0, 3))))
            fault = carries_fault(shelves, orders, slots, value)
            self.assertTrue(same(fault, plain_fault(shelves, orders, slots, value)))
            words.add(fault and fault[1])
        self.assertTrue({None, "form", "closed", "wish", "left"} <= words)

    def test_wrong_arguments(self):
        self.told(InvalidGoods, 1, carries_fault, [[], 0], None, None, None)
        self.told(InvalidGoods, -1, carries_fault, None, None, None, None)
        self.told(InvalidOrders, 1, carries_fault, [[]], [[], [(0, 1), (0, 1)]], None, None)
        self.told(InvalidOrders, -1, carries_fault, [[]], "", None, None)
        for wrong in (0, -1, True, None, "1", (1,)):
            self.told(InvalidSize, "slots", carries_fault, [[]], [[(0, 1)]], wrong, None)


if __name__ == "__main__":
    unittest.main()
