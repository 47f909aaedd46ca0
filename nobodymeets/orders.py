"""Orders: the fewest shelves that have all that is wanted, with what shows that no fewer do."""

from nobodymeets.basics import is_count, is_index, is_lot, is_number, is_rising, steps_from
from nobodymeets.errors import InvalidSize, Refused
from nobodymeets.goods import counts_of, need_goods, need_shelves


def need_wave(shelves, wanted):
    """What each shelf has, by goods, and the wanted goods."""
    rows = need_shelves(shelves)
    goods = need_goods(wanted)
    return [counts_of(row) for row in rows], goods


def wave_paper(shelves, wanted, knots):
    """Some fewest shelves that have all wanted and a tree by which one less doesn't do, or a good of which there
    is too little; or that it took too many knots."""
    stores, goods = need_wave(shelves, wanted)
    if not is_count(knots):
        raise InvalidSize("knots")
    lacking = first_lacking(stores, goods, tuple(range(len(stores))), (), len(stores))
    if lacking is not None:
        return ("lacks", lacking)
    tree = None
    left = knots
    many = 0
    # All shelves together have all wanted, so this ends.
    while True:
        chosen, more, left = wave_tree(stores, goods, ((), ()), many, left)
        if chosen is not None:
            return ("fewest", tuple(sorted(list(chosen))), tree)
        if more is None:
            return ("bound",)
        tree = more
        many += 1


def wave_tree(stores, goods, case, many, left):
    """In a case (shelves that are chosen, shelves that are barred), with so many knots left: (up to so many shelves
    that have all wanted, or None; the tree by which they don't do, or None; how many knots are left then).

    With neither shelves nor a tree knots were too few."""
    chosen, barred = case
    if left == 0:
        return None, None, 0
    missing = first_lacking(stores, goods, chosen, barred, len(chosen))
    if missing is None:
        return chosen, None, left - 1
    lacking = first_lacking(stores, goods, chosen, barred, many)
    if lacking is not None:
        return None, ("lacks", lacking), left - 1
    shelf = best_undecided(stores, chosen, barred, missing)
    found, one, rest = wave_tree(stores, goods, (chosen + (shelf,), barred), many, left - 1)
    if one is None:
        return found, None, rest
    found, other, rest = wave_tree(stores, goods, (chosen, barred + (shelf,)), many, rest)
    if other is None:
        return found, None, rest
    return None, ("case", shelf, one, other), rest


def undecided(stores, chosen, barred):
    """The shelves that are neither chosen nor barred."""
    return [shelf for shelf in range(len(stores)) if shelf not in chosen and shelf not in barred]


def best_undecided(stores, chosen, barred, good):
    """The first of the undecided shelves that have the most of a good."""
    return min([(-stores[shelf].get(good, 0), shelf) for shelf in undecided(stores, chosen, barred)])[1]


def first_lacking(stores, goods, chosen, barred, many):
    """The first good of which there is too little, or None, with chosen shelves and the best of those not barred
    that may still be chosen: so many together."""
    for good, count in goods:
        if does_lack(stores, (good, count), chosen, barred, many):
            return good
    return None


def does_lack(stores, wish, chosen, barred, many):
    """Whether with chosen shelves and the best others not barred, so many together, there is too little of a good."""
    good, count = wish
    there = [stores[shelf].get(good, 0) for shelf in chosen]
    others = [stores[shelf].get(good, 0) for shelf in undecided(stores, chosen, barred)]
    return sum(there) + sum(sorted(others, reverse=True)[:many - len(chosen)]) < count


def wave_holds(shelves, wanted, value):
    """Whether any value is some fewest shelves with a tree that shows it, or a good of which there is too little."""
    stores, goods = need_wave(shelves, wanted)
    if not isinstance(value, tuple):
        return False
    if len(value) == 2:
        return is_lacks(stores, goods, (tuple(range(len(stores))), ()), len(stores), value)
    if len(value) != 3 or value[0] != "fewest" or not is_lot(value[1], len(stores)):
        return False
    many = len(value[1])
    if first_lacking(stores, goods, value[1], (), many) is not None:
        return False
    if many == 0:
        return value[2] is None
    return is_wave_tree(stores, goods, ((), ()), many - 1, value[2])


def is_lacks(stores, goods, case, many, value):
    """Whether a tuple of two names a wanted good of which there is too little in a case."""
    counts = counts_of(goods)
    if value[0] != "lacks" or not is_number(value[1]) or value[1] not in counts:
        return False
    return does_lack(stores, (value[1], counts[value[1]]), case[0], case[1], many)


def is_wave_tree(stores, goods, case, many, value):
    """Whether any value is a tree by which up to so many shelves don't do in a case."""
    if not isinstance(value, tuple):
        return False
    if len(value) == 2:
        return is_lacks(stores, goods, case, many, value)
    chosen, barred = case
    if len(value) != 4 or value[0] != "case" or len(chosen) == many:
        return False
    shelf = value[1]
    if not is_index(shelf, len(stores)) or shelf in chosen or shelf in barred:
        return False
    if not is_wave_tree(stores, goods, (chosen + (shelf,), barred), many, value[2]):
        return False
    return is_wave_tree(stores, goods, (chosen, barred + (shelf,)), many, value[3])


def need_paired(shelves, wanted):
    """The wanted goods on each shelf, and all wanted goods; each shelf that has one has enough, and two at most."""
    stores, goods = need_wave(shelves, wanted)
    for at, store in enumerate(stores):
        if len(wanted_on(store, goods)) > 2 or any([0 < store.get(good, 0) < count for good, count in goods]):
            raise Refused(at)
    for good, _ in goods:
        if not any([good in store for store in stores]):
            raise Refused(good)
    return [wanted_on(store, goods) for store in stores], tuple([good for good, _ in goods])


def wanted_on(store, goods):
    """The wanted goods that a shelf has, ascending."""
    return tuple([good for good, _ in goods if good in store])


def pairs_paper(shelves, wanted):
    """Some fewest shelves that have all wanted, and a lot of goods that asks for just so many."""
    rows, goods = need_paired(shelves, wanted)
    known = {}
    pairs = most_pairs(rows, goods, known)
    paired = [good for pair in pairs for good in pair]
    singles = [(good,) for good in goods if good not in paired]
    chosen = sorted([first_with(rows, some) for some in list(pairs) + singles])
    return (tuple(chosen), barring_lot(rows, goods, known))


def first_with(rows, goods):
    """The first shelf that has some goods."""
    for shelf, row in enumerate(rows):
        if all([good in row for good in goods]):
            return shelf
    return None


def most_pairs(rows, goods, known):
    """The most pairs of goods that hang together, no good in two; known has what was told before."""
    if goods not in known:
        known[goods] = found_pairs(rows, goods, known)
    return known[goods]


def found_pairs(rows, goods, known):
    """The most pairs of goods: the first one stays alone, or is in a pair with each other one in turn."""
    if len(goods) == 0:
        return ()
    best = most_pairs(rows, goods[1:], known)
    for other in goods[1:]:
        if (goods[0], other) in rows:
            left = tuple([good for good in goods[1:] if good != other])
            pairs = ((goods[0], other),) + most_pairs(rows, left, known)
            if len(pairs) > len(best):
                best = pairs
    return best


def barring_lot(rows, goods, known):
    """The lot that asks for as many shelves as are needed.

    Some goods can be left alone by some most pairs; the others that hang together with such are the lot: without
    it those fall apart into pieces with odd many goods, the rest into pieces that pairs can have whole."""
    many = len(most_pairs(rows, goods, known))
    single = []
    for good in goods:
        left = tuple([other for other in goods if other != good])
        if len(most_pairs(rows, left, known)) == many:
            single.append(good)
    graph = goods_graph(rows, goods)
    return tuple([good for good in goods if good not in single and any([other in single for other in graph[good]])])


def goods_graph(rows, goods):
    """The goods of some that hang together with each: two of a shelf do."""
    graph = {}
    for good in goods:
        together = [other for row in rows if good in row for other in row]
        graph[good] = [other for other in goods if other != good and other in together]
    return graph


def odd_pieces(rows, goods):
    """How many pieces of goods that hang together have odd many goods."""
    graph = goods_graph(rows, goods)
    pieces = {tuple(sorted(list(steps_from(graph, good)))): True for good in goods}
    return len([piece for piece in pieces if len(piece) & 1 == 1])


def pairs_hold(shelves, wanted, value):
    """Whether any value is shelves that have all wanted, and a lot of goods that asks for just so many."""
    rows, goods = need_paired(shelves, wanted)
    if not isinstance(value, tuple) or len(value) != 2:
        return False
    chosen, lot = value
    if not is_lot(chosen, len(rows)) or not is_lot_of(lot, goods):
        return False
    if not all([any([good in rows[shelf] for shelf in chosen]) for good in goods]):
        return False
    odd = odd_pieces(rows, tuple([good for good in goods if good not in lot]))
    return 2 * len(chosen) == len(goods) - len(lot) + odd


def is_lot_of(value, goods):
    """Whether any value is a tuple of some of the goods, ascending."""
    if not isinstance(value, tuple) or not all([is_number(good) and good in goods for good in value]):
        return False
    return is_rising(value)
