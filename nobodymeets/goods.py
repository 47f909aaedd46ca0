"""Goods and shelves of goods, as stock, orders and stations take them."""

from nobodymeets.basics import is_count, is_number, is_sequence
from nobodymeets.errors import InvalidGoods


def are_goods(value):
    """Whether a value is a sequence of pairs (good, count), unlike goods, counts from 1 on."""
    if not is_sequence(value) or not all([is_good_pair(pair) for pair in value]):
        return False
    return len({good: True for good, _ in value}) == len(value)


def is_good_pair(value):
    """Whether a value is a good and a count of it."""
    return is_sequence(value) and len(value) == 2 and is_number(value[0]) and is_count(value[1])


def told_goods(goods):
    """Goods in tuples, ascending."""
    return tuple(sorted([(good, count) for good, count in goods]))


def need_goods(goods):
    """Goods handed in, in tuples, ascending."""
    if not are_goods(goods):
        raise InvalidGoods(-1)
    return told_goods(goods)


def need_shelves(shelves):
    """Shelves handed in: goods of each, in tuples, ascending."""
    if not is_sequence(shelves):
        raise InvalidGoods(-1)
    for at, goods in enumerate(shelves):
        if not are_goods(goods):
            raise InvalidGoods(at)
    return tuple([told_goods(goods) for goods in shelves])


def counts_of(goods):
    """How many there are of each good."""
    return {good: count for good, count in goods}
