"""Standings of robots in two-way halls: which of them come of one another, by moves into empty cells."""

from nobodymeets.basics import is_index, is_number, is_rising, is_sequence
from nobodymeets.errors import InvalidStanding, Refused
from nobodymeets.halls import need_hall

MOST_LOTS = 800
MOST_ROBOTS = 6


def need_pairs(hall, standing):
    """Any value as a standing of a hall, in tuples."""
    if not is_sequence(standing):
        raise InvalidStanding(-1)
    pairs = []
    taken = {}
    for at, pair in enumerate(standing):
        if not is_pair(hall, pair) or pair[1] in taken or (at > 0 and pair[0] <= pairs[-1][0]):
            raise InvalidStanding(at)
        taken[pair[1]] = True
        pairs.append((pair[0], pair[1]))
    return tuple(pairs)


def is_pair(hall, value):
    """Whether a value is a robot's number and a cell of a hall."""
    return is_sequence(value) and len(value) == 2 and is_number(value[0]) and is_index(value[1], hall.cells)


def need_two_way(hall):
    """Refuses halls that are not two-way."""
    if not hall.is_two_way():
        raise Refused("ways")


def need_few(pairs):
    """Refuses standings of more than six robots."""
    if len(pairs) > MOST_ROBOTS:
        raise Refused("many")


def need_both(hall, one, other):
    """Two standings of the same few robots in a two-way hall, in tuples."""
    need_hall(hall)
    begin = need_pairs(hall, one)
    end = need_pairs(hall, other)
    need_two_way(hall)
    if [robot for robot, _ in begin] != [robot for robot, _ in end]:
        raise Refused("robots")
    need_few(begin)
    return begin, end


def need_one(hall, standing):
    """A standing in a two-way hall, in tuples."""
    need_hall(hall)
    pairs = need_pairs(hall, standing)
    need_two_way(hall)
    return pairs


def lot_of(pairs):
    """The cells that a standing takes, ascending."""
    return tuple(sorted([cell for _, cell in pairs]))


def home_tree(hall, one):
    """The tree of moves by which the lots of taken cells come from the one's: rows (lot, cell, cell,
    earlier row's number)."""
    return lot_tree(hall, lot_of(need_one(hall, one)))


def lot_tree(hall, lot):
    """The tree of moves from a lot of taken cells."""
    rows = [(lot, None, None, None)]
    found = {lot: True}
    at = 0
    while at < len(rows):
        taken = rows[at][0]
        for cell, other in lot_moves(hall, taken):
            after = moved_lot(taken, cell, other)
            if after not in found:
                if len(rows) == MOST_LOTS:
                    raise Refused("lots")
                found[after] = True
                rows.append((after, cell, other, at))
        at += 1
    return tuple(rows)


def lot_moves(hall, lot):
    """The moves (cell, cell) from taken cells into empty ones, ascending."""
    return [(cell, other) for cell in lot for other in hall.followers[cell] if other not in lot]


def moved_lot(lot, cell, other):
    """The taken cells behind a move."""
    return tuple(sorted([other if taken == cell else taken for taken in lot]))


def tree_orders(tree, pairs):
    """For each row of a standing's tree who is in which cell behind the moves down to it: the robots' places
    among them, by cells."""
    orders = [{cell: place for place, (_, cell) in enumerate(pairs)}]
    for _, cell, other, earlier in tree[1:]:
        orders.append(moved_order(orders[earlier], cell, other))
    return orders


def moved_order(order, cell, other):
    """Who is in which cell behind a move."""
    return {other if taken == cell else taken: place for taken, place in order.items()}


def led_home(order, tree_order):
    """The permutation that is left when those who are in some cells are led up the tree from there: at the
    place of whoever went down the tree to a cell is then who was in it."""
    row = [None] * len(order)
    for cell, place in order.items():
        row[tree_order[cell]] = place
    return tuple(row)


def closed_walks(hall, tree, orders):
    """By the permutations that they make, first ones first, the moves (row, cell, cell, row) that close walks."""
    numbers = {row[0]: number for number, row in enumerate(tree)}
    walks = {}
    for number, row in enumerate(tree):
        for cell, other in lot_moves(hall, row[0]):
            after = numbers[moved_lot(row[0], cell, other)]
            turn = led_home(moved_order(orders[number], cell, other), orders[after])
            if turn not in walks:
                walks[turn] = (number, cell, other, after)
    return walks


def made_turns(walks, many):
    """All permutations that closed walks make one after another, each with the one before it and the walk by
    which it came, None for the idle one; by as few sorts of walks as were found to make something new."""
    turns = made_by([], many)
    used = []
    for walk in walks:
        if walk not in turns:
            used.append(walk)
            turns = made_by(used, many)
    return turns, used


def made_by(walks, many):
    """The permutations that come of the idle one by some walks, each with the one before and the walk."""
    idle = tuple(range(many))
    came = {idle: None}
    queue = [idle]
    at = 0
    while at < len(queue):
        turn = queue[at]
        for walk in walks:
            after = walked(turn, walk)
            if after not in came:
                came[after] = (turn, walk)
                queue.append(after)
        at += 1
    return came


def walked(turn, walk):
    """What comes of a permutation by a closed walk behind it."""
    return tuple([turn[place] for place in walk])


def row_number(tree, lot):
    """The number of the row of a tree with a lot of taken cells, or None."""
    for number, row in enumerate(tree):
        if row[0] == lot:
            return number
    return None


def difference_of(end, tree_order):
    """The permutation that leads one's robots to where other's are when these are led home."""
    return led_home({cell: place for place, (_, cell) in enumerate(end)}, tree_order)


def standing_paper(hall, one, other):
    """Moves that turn one standing into an other, or what shows that there are none."""
    begin, end = need_both(hall, one, other)
    tree = lot_tree(hall, lot_of(begin))
    number = row_number(tree, lot_of(end))
    if number is None:
        return ("lots",)
    orders = tree_orders(tree, begin)
    walks = closed_walks(hall, tree, orders)
    turns, _ = made_turns(walks, len(begin))
    difference = difference_of(end, orders[number])
    if difference not in turns:
        return ("barred", tuple(sorted(list(turns))))
    steps = []
    for walk in walks_to(turns, difference):
        steps.extend(walk_steps(tree, walks[walk]))
    return ("moves", named_moves(begin, straight_steps(steps + steps_down(tree, number))))


def walks_to(turns, turn):
    """The walks that make a permutation, one after another."""
    walks = []
    before = turns[turn]
    while before is not None:
        walks.append(before[1])
        before = turns[before[0]]
    return walks[::-1]


def walk_steps(tree, closing):
    """The steps (cell, cell) of a closed walk: down the tree, the move that closes it, and back up."""
    number, cell, other, after = closing
    back = [(two, first) for first, two in steps_down(tree, after)[::-1]]
    return steps_down(tree, number) + [(cell, other)] + back


def steps_down(tree, number):
    """The steps (cell, cell) from home down a tree to a row."""
    steps = []
    while number > 0:
        steps.append((tree[number][1], tree[number][2]))
        number = tree[number][3]
    return steps[::-1]


def straight_steps(steps):
    """The steps without those that are taken back at once."""
    left = []
    for cell, other in steps:
        if len(left) > 0 and left[-1] == (other, cell):
            left.pop()
        else:
            left.append((cell, other))
    return left


def named_moves(pairs, steps):
    """Steps (cell, cell) as moves (robot, cell) of who then stands there."""
    robots = {cell: robot for robot, cell in pairs}
    moves = []
    for cell, other in steps:
        robots[other] = robots[cell]
        moves.append((robots[cell], other))
    return tuple(moves)


def standing_holds(hall, one, other, value):
    """Whether any value is a paper that standing_paper may tell."""
    begin, end = need_both(hall, one, other)
    tree = lot_tree(hall, lot_of(begin))
    number = row_number(tree, lot_of(end))
    if not isinstance(value, tuple):
        return False
    if len(value) == 1:
        return value[0] == "lots" and number is None
    if len(value) != 2:
        return False
    if value[0] == "moves":
        return do_lead(hall, begin, end, value[1])
    if value[0] != "barred" or number is None or not are_turns(value[1], len(begin)):
        return False
    orders = tree_orders(tree, begin)
    _, used = made_turns(closed_walks(hall, tree, orders), len(begin))
    return do_bar(used, difference_of(end, orders[number]), value[1])


def do_lead(hall, begin, end, value):
    """Whether any value is moves that turn one standing into another one."""
    if not isinstance(value, tuple):
        return False
    cells = {robot: cell for robot, cell in begin}
    for move in value:
        if not isinstance(move, tuple) or not is_pair(hall, move) or move[0] not in cells:
            return False
        if move[1] not in hall.followers[cells[move[0]]] or move[1] in list(cells.values()):
            return False
        cells[move[0]] = move[1]
    return [cells[robot] for robot, _ in end] == [cell for _, cell in end]


def are_turns(value, many):
    """Whether any value is a lot of permutations of so many numbers."""
    if not isinstance(value, tuple) or not all([is_turn(turn, many) for turn in value]):
        return False
    return is_rising(value)


def is_turn(value, many):
    """Whether any value is a permutation of so many numbers."""
    if not isinstance(value, tuple) or not all([is_index(place, many) for place in value]):
        return False
    return sorted(list(value)) == list(range(many))


def do_bar(walks, difference, lot):
    """Whether a lot of permutations has the idle one, what comes of each by each walk, and not the difference.

    A lot that a few walks do not lead out of is not left by the walks that these make, either."""
    turns = {turn: True for turn in lot}
    if tuple(range(len(difference))) not in turns or difference in turns:
        return False
    return all([walked(turn, walk) in turns for turn in lot for walk in walks])


def turned_count(hall, standing):
    """How many standings come in which the same cells are taken."""
    pairs = need_one(hall, standing)
    need_few(pairs)
    tree = lot_tree(hall, lot_of(pairs))
    turns, _ = made_turns(closed_walks(hall, tree, tree_orders(tree, pairs)), len(pairs))
    return len(turns)


def standing_count(hall, standing):
    """How many standings come at all."""
    many = turned_count(hall, standing)
    return many * len(lot_tree(hall, lot_of(need_one(hall, standing))))
