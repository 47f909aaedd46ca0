"""Stations: which shelves are carried to one, when, and what they give to its orders."""

from nobodymeets.basics import is_count, is_index, is_number, is_sequence
from nobodymeets.errors import InvalidHomes, InvalidOrders, InvalidSize
from nobodymeets.goods import are_goods, counts_of, need_shelves, told_goods


def need_homes(homes):
    """The shelf of each good that has a home."""
    if not is_sequence(homes):
        raise InvalidHomes(-1)
    found = {}
    for at, pair in enumerate(homes):
        if not is_home(pair) or pair[0] in found:
            raise InvalidHomes(at)
        found[pair[0]] = pair[1]
    return found


def is_home(value):
    """Whether a value is a good and a shelf's number."""
    return is_sequence(value) and len(value) == 2 and is_number(value[0]) and is_number(value[1])


def need_orders(orders):
    """Orders: the goods of each, in tuples, ascending."""
    if not is_sequence(orders):
        raise InvalidOrders(-1)
    for at, goods in enumerate(orders):
        if not are_goods(goods):
            raise InvalidOrders(at)
    return tuple([told_goods(goods) for goods in orders])


def need_homed_orders(places, orders):
    """Orders of goods that all have homes."""
    if not is_sequence(orders):
        raise InvalidOrders(-1)
    for at, goods in enumerate(orders):
        if not are_goods(goods) or not all([good in places for good, _ in goods]):
            raise InvalidOrders(at)
    return need_orders(orders)


def need_slots(slots):
    """Refuses whatever is no number of slots."""
    if not is_count(slots):
        raise InvalidSize("slots")


def need_station(homes, orders, slots):
    """The shelf of each good, and the orders, of a station with some slots."""
    places = need_homes(homes)
    rows = need_homed_orders(places, orders)
    need_slots(slots)
    return places, rows


def row_carries(homes, orders, slots):
    """The fewest carries (phase, shelf) that serve the orders, ascending, each as late as can be."""
    places, rows = need_station(homes, orders, slots)
    return late_carries(places, rows, slots)


def late_carries(places, orders, slots):
    """The carries (phase, shelf), ascending: of each shelf at the closing of the first order that still wants it."""
    shelves = {places[good]: True for order in orders for good, _ in order}
    return tuple(sorted([(phase, shelf) for shelf in shelves for phase in closings(places, orders, slots, shelf)]))


def closings(places, orders, slots, shelf):
    """The orders at whose closing a shelf is carried, ascending."""
    phases = []
    for at, order in enumerate(orders):
        # Whoever was open at the last carry has had what it wants of the shelf.
        if does_want(places, order, shelf) and (len(phases) == 0 or at - phases[-1] >= slots):
            phases.append(at)
    return tuple(phases)


def does_want(places, order, shelf):
    """Whether an order wants a good whose home is a shelf."""
    return any([places[good] == shelf for good, _ in order])


def apart_orders(homes, orders, slots, shelf):
    """The orders at whose closing a shelf is carried: slots apart at least, so that each asks for a carry."""
    places, rows = need_station(homes, orders, slots)
    if not is_number(shelf):
        raise InvalidSize("shelf")
    return closings(places, rows, slots, shelf)


def carries_serve(homes, orders, slots, value):
    """Whether any value is carries (phase, shelf) by which each order, while open, sees each shelf it wants."""
    places, rows = need_station(homes, orders, slots)
    if not isinstance(value, tuple) or not all([is_phase_pair(pair, len(rows)) for pair in value]):
        return False
    for at, order in enumerate(rows):
        seen = [shelf for phase, shelf in value if is_open_in(at, phase, slots)]
        if not all([places[good] in seen for good, _ in order]):
            return False
    return True


def is_phase_pair(value, orders):
    """Whether any value is a phase of so many orders (0 also if there are none) and a shelf's number."""
    return isinstance(value, tuple) and len(value) == 2 and is_index(value[0], max(1, orders)) and is_number(value[1])


def is_open_in(order, phase, slots):
    """Whether an order is open in a phase."""
    return phase <= order < phase + slots


def made_carries(shelves, homes, orders, slots):
    """Carries (phase, shelf, gifts) that fill all orders, or a good of which its home has too few."""
    stores = [counts_of(goods) for goods in need_shelves(shelves)]
    places, rows = need_station(homes, orders, slots)
    if not all([shelf < len(stores) for shelf in places.values()]):
        raise InvalidHomes(-1)
    lacking = lacking_good(stores, places, rows)
    if lacking is not None:
        return ("lacks",) + lacking
    carries = []
    for phase, shelf in late_carries(places, rows, slots):
        carries.append((phase, shelf, all_gifts(places, rows, slots, phase, shelf)))
    return ("carries", tuple(carries))


def lacking_good(stores, places, orders):
    """(The least good of which its home has too few, how many are wanted, how many are there), or None."""
    wanted = {}
    for order in orders:
        for good, count in order:
            wanted[good] = wanted.get(good, 0) + count
    for good in sorted(list(wanted)):
        there = stores[places[good]].get(good, 0)
        if there < wanted[good]:
            return (good, wanted[good], there)
    return None


def all_gifts(places, orders, slots, phase, shelf):
    """The gifts (order, good, count) of a shelf to all orders that are open in a phase.

    Its carries are slots apart at least, so no order has seen it before."""
    gifts = []
    for at, order in enumerate(orders):
        if is_open_in(at, phase, slots):
            gifts.extend([(at, good, count) for good, count in order if places[good] == shelf])
    return tuple(gifts)


def carries_fault(shelves, orders, slots, value):
    """What is first wrong with any value as carries that fill all orders: (place, word), or None."""
    stores = [counts_of(goods) for goods in need_shelves(shelves)]
    left = [counts_of(goods) for goods in need_orders(orders)]
    need_slots(slots)
    if not isinstance(value, tuple):
        return (-1, "form")
    least = 0
    for at, carry in enumerate(value):
        word = carry_fault(stores, left, slots, least, carry)
        if word is not None:
            return (at, word)
        least = carry[0]
    for at, counts in enumerate(left):
        if any([count > 0 for count in counts.values()]):
            return (at, "left")
    return None


def carry_fault(stores, left, slots, least, carry):
    """What is first wrong with any value as a carry no sooner than a phase, or None; its gifts are given."""
    if not is_carry(carry, len(stores), len(left)):
        return "form"
    phase, shelf, gifts = carry
    if phase < least:
        return "phase"
    for order, good, count in gifts:
        if not is_open_in(order, phase, slots):
            return "closed"
        if count > left[order].get(good, 0):
            return "wish"
        if count > stores[shelf].get(good, 0):
            return "short"
        left[order][good] -= count
        stores[shelf][good] -= count
    return None


def is_carry(value, shelves, orders):
    """Whether any value is a phase, a shelf and gifts."""
    if not isinstance(value, tuple) or len(value) != 3 or not isinstance(value[2], tuple):
        return False
    if not is_index(value[0], orders) or not is_index(value[1], shelves):
        return False
    return all([is_order_gift(gift, orders) for gift in value[2]])


def is_order_gift(value, orders):
    """Whether any value is an order, a good and a count."""
    if not isinstance(value, tuple) or len(value) != 3:
        return False
    return is_index(value[0], orders) and is_number(value[1]) and is_count(value[2])
