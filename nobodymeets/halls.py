"""Halls: maps of cells of five kinds, the ways between them, and their drawings."""

from nobodymeets.basics import is_index, is_number, is_sequence
from nobodymeets.errors import InvalidCell, InvalidHall, InvalidLot, InvalidSize, InvalidText, Refused

KINDS = ("free", "park", "shelf", "station", "charger")
MOST_CELLS = 400
NO_CELL = "#"
SIGN_KINDS = {
    ".": "free", "P": "park", "H": "shelf", "S": "station", "C": "charger",
    ">": "free", "<": "free", "^": "free", "v": "free",
}
KIND_SIGNS = {"free": ".", "park": "P", "shelf": "H", "station": "S", "charger": "C"}
ONE_WAY_STEPS = {">": (1, 0), "<": (-1, 0), "^": (0, -1), "v": (0, 1)}
STEPS = ((1, 0), (-1, 0), (0, -1), (0, 1))


class Hall:
    """A hall: the kind of each cell, the ways from cell to cell, and perhaps where cells lie."""

    def __init__(self, kinds, ways, places=()):
        if not are_kinds(kinds):
            raise InvalidHall(0)
        if not are_ways(ways, len(kinds)):
            raise InvalidHall(1)
        if not are_places(places, len(kinds)) or not are_beside(ways, places):
            raise InvalidHall(2)
        self.kinds = tuple(kinds)
        self.ways = tuple(sorted([(one, other) for one, other in ways]))
        self.places = tuple([(column, row) for column, row in places])
        self.cells = len(self.kinds)
        self.marks = tuple([(cell, kind) for cell, kind in enumerate(self.kinds) if kind != "free"])
        self.followers = followers_of(self.cells, self.ways)
        self.neighbours = followers_of(self.cells, either_way(self.ways))

    def __eq__(self, other):
        return (isinstance(other, Hall) and self.kinds == other.kinds and self.ways == other.ways
                and self.places == other.places)

    def next_cells(self, cell):
        """The cells to which one may go from a cell, ascending."""
        need_cell(self, cell, -1)
        return self.followers[cell]

    def near_cells(self, cell):
        """The cells that are tied to a cell, ascending."""
        need_cell(self, cell, -1)
        return self.neighbours[cell]

    def cells_of(self, kind):
        """The cells of a kind, ascending."""
        need_kind(kind)
        return tuple([cell for cell, own in enumerate(self.kinds) if own == kind])

    def is_two_way(self):
        """Whether with each way its opposite is there."""
        return all([one in self.followers[other] for one, other in self.ways])


def are_kinds(value):
    """Whether a value tells the kinds of 1 to 400 cells."""
    if not is_sequence(value) or not 1 <= len(value) <= MOST_CELLS:
        return False
    return all([is_kind(kind) for kind in value])


def is_kind(value):
    """Whether a value is a kind of cell."""
    return isinstance(value, str) and value in KINDS


def are_ways(value, cells):
    """Whether a value is a sequence of unlike pairs of unlike cells."""
    if not is_sequence(value) or not all([is_way(way, cells) for way in value]):
        return False
    return len({(one, other): True for one, other in value}) == len(value)


def is_way(value, cells):
    """Whether a value is a pair of unlike cells."""
    if not is_sequence(value) or len(value) != 2:
        return False
    return is_index(value[0], cells) and is_index(value[1], cells) and value[0] != value[1]


def are_places(value, cells):
    """Whether a value is empty, or a place for each cell, ascending by row, then column."""
    if not is_sequence(value) or not all([is_place(place) for place in value]):
        return False
    if len(value) == 0:
        return True
    order = [(row, column) for column, row in value]
    return len(value) == cells and all([one < other for one, other in zip(order, order[1:])])


def is_place(value):
    """Whether a value is a column and a row."""
    return is_sequence(value) and len(value) == 2 and is_number(value[0]) and is_number(value[1])


def are_beside(ways, places):
    """Whether each way goes between places side by side, if there are places."""
    if len(places) == 0:
        return True
    return all([is_beside(places[one], places[other]) for one, other in ways])


def is_beside(one, other):
    """Whether two places are side by side."""
    return abs(one[0] - other[0]) + abs(one[1] - other[1]) == 1


def followers_of(cells, ways):
    """For each cell, ascending, the cells to which ways lead from it."""
    rows = [[] for _ in range(cells)]
    for one, other in ways:
        rows[one].append(other)
    return tuple([tuple(sorted(row)) for row in rows])


def either_way(ways):
    """The ways and their opposites, each once."""
    pairs = {}
    for one, other in ways:
        pairs[(one, other)] = True
        pairs[(other, one)] = True
    return list(pairs)


def need_hall(hall):
    """Refuses whatever is no hall."""
    if not isinstance(hall, Hall):
        raise InvalidHall(-1)


def need_cell(hall, cell, at):
    """Refuses whatever is no cell of a hall; at tells which of a call's cells it is."""
    if not is_index(cell, hall.cells):
        raise InvalidCell(at)


def need_kind(kind):
    """Refuses whatever is no kind of cell."""
    if not is_kind(kind):
        raise InvalidSize("kind")


def put_way(hall, one, other):
    """The hall with a way more."""
    need_hall(hall)
    need_cell(hall, one, 0)
    need_cell(hall, other, 1)
    if one == other or other in hall.followers[one] or not are_beside([(one, other)], hall.places):
        raise Refused(-1)
    return Hall(hall.kinds, hall.ways + ((one, other),), hall.places)


def take_way(hall, one, other):
    """The hall with a way less."""
    need_hall(hall)
    need_cell(hall, one, 0)
    need_cell(hall, other, 1)
    if other not in hall.followers[one]:
        raise Refused(-1)
    return Hall(hall.kinds, [way for way in hall.ways if way != (one, other)], hall.places)


def lose_cells(hall, cells):
    """The hall without all ways from and to some cells, which keep their numbers."""
    need_hall(hall)
    lost = need_cells(hall, cells)
    left = [(one, other) for one, other in hall.ways if one not in lost and other not in lost]
    return Hall(hall.kinds, left, hall.places)


def need_cells(hall, cells):
    """Unlike cells of a hall, in any order, as keys of a dict."""
    if not is_sequence(cells):
        raise InvalidLot(-1)
    found = {}
    for at, cell in enumerate(cells):
        if not is_index(cell, hall.cells) or cell in found:
            raise InvalidLot(at)
        found[cell] = True
    return found


def change_kind(hall, cell, kind):
    """The hall with another kind of a cell."""
    need_hall(hall)
    need_cell(hall, cell, -1)
    need_kind(kind)
    return Hall(hall.kinds[:cell] + (kind,) + hall.kinds[cell + 1:], hall.ways, hall.places)


def read_drawing(text):
    """The hall that rows of signs draw."""
    if not isinstance(text, str):
        raise InvalidText(-1)
    rows = text.split("\n")
    wrong = first_wrong_sign(rows)
    if wrong is not None:
        raise InvalidText(wrong)
    signs = {}
    for row, line in enumerate(rows):
        for column, sign in enumerate(line):
            if sign != NO_CELL:
                signs[(column, row)] = sign
    if not 1 <= len(signs) <= MOST_CELLS:
        raise InvalidText(len(text))
    kinds = [SIGN_KINDS[sign] for sign in signs.values()]
    return Hall(kinds, drawn_ways(signs), list(signs))


def first_wrong_sign(rows):
    """The first place in a text of rows where it goes wrong, or None."""
    begin = 0
    for line in rows:
        if len(line) == 0 or len(line) != len(rows[0]):
            return begin
        for at, sign in enumerate(line):
            if sign != NO_CELL and sign not in SIGN_KINDS:
                return begin + at
        begin = begin + len(line) + 1
    return None


def drawn_ways(signs):
    """The ways that signs at their places draw."""
    cells = cell_numbers(list(signs))
    ways = []
    for place, sign in signs.items():
        ways.extend([(cells[place], cell) for cell in drawn_followers(cells, place, sign)])
    return ways


def cell_numbers(places):
    """The number of the cell at each place."""
    return {place: cell for cell, place in enumerate(places)}


def drawn_followers(cells, place, sign):
    """The cells to which a sign at a place lets one go, ascending."""
    steps = (ONE_WAY_STEPS[sign],) if sign in ONE_WAY_STEPS else STEPS
    beside = [(place[0] + right, place[1] + down) for right, down in steps]
    return tuple(sorted([cells[other] for other in beside if other in cells]))


def hall_text(hall):
    """The drawing of a hall with places."""
    need_hall(hall)
    signs = cell_signs(hall)
    columns = max([column for column, _ in hall.places]) + 1
    rows = max([row for _, row in hall.places]) + 1
    lines = [[signs.get((column, row), NO_CELL) for column in range(columns)] for row in range(rows)]
    return "\n".join(["".join(line) for line in lines])


def cell_signs(hall):
    """The sign at each place by which a hall's cells are drawn."""
    if len(hall.places) == 0:
        raise Refused(-1)
    cells = cell_numbers(hall.places)
    signs = {}
    for cell, place in enumerate(hall.places):
        sign = sign_of(hall, cells, cell)
        if sign is None:
            raise Refused(cell)
        signs[place] = sign
    return signs


def sign_of(hall, cells, cell):
    """The first sign that draws a cell's kind and ways, or None."""
    kind = hall.kinds[cell]
    signs = [KIND_SIGNS[kind]]
    if kind == "free":
        signs.extend(list(ONE_WAY_STEPS))
    for sign in signs:
        if drawn_followers(cells, hall.places[cell], sign) == hall.followers[cell]:
            return sign
    return None
