"""Pictures of a hall with its robots, and how they are read again."""

from nobodymeets.basics import is_index, is_sequence
from nobodymeets.errors import InvalidPicture, InvalidRobots, InvalidText
from nobodymeets.halls import NO_CELL, ONE_WAY_STEPS, hall_text, need_hall, read_drawing

LETTERS = "abcdefghijklmnopqrstuvwxyz"
NOBODY = "  "
COMING_SIGN = "*"


def hall_picture(hall, robots):
    """The rows of signs, three for each place, that show a hall with places and robots."""
    need_hall(hall)
    shown = need_shown(hall, robots)
    drawing = hall_text(hall)
    marks = robot_marks(hall, shown)
    lines = []
    cell = 0
    for line in drawing.split("\n"):
        parts = []
        for sign in line:
            if sign == NO_CELL:
                parts.append(NO_CELL * 3)
            else:
                # Cells are numbered row by row, as signs stand in a drawing.
                parts.append(sign + marks.get(cell, NOBODY))
                cell += 1
        lines.append("".join(parts))
    return "\n".join(lines)


def need_shown(hall, robots):
    """Robots as they are shown: (place, loaded), in tuples, no cell held by two."""
    if not is_sequence(robots):
        raise InvalidRobots(-1)
    shown = []
    held = {}
    for at, robot in enumerate(robots):
        if at == len(LETTERS) or not is_shown(hall, robot) or any([cell in held for cell in robot[0]]):
            raise InvalidRobots(at)
        held.update({cell: True for cell in robot[0]})
        shown.append((tuple(robot[0]), robot[1]))
    return tuple(shown)


def is_shown(hall, value):
    """Whether a value is a robot's place and whether it is loaded; who is out isn't."""
    if not is_sequence(value) or len(value) != 2 or not isinstance(value[1], bool):
        return False
    place = value[0]
    if not is_sequence(place) or len(place) > 2 or not all([is_index(cell, hall.cells) for cell in place]):
        return False
    if len(place) == 2:
        return place[1] in hall.followers[place[0]]
    return len(place) == 1 or not value[1]


def robot_marks(hall, shown):
    """The two signs behind that of each cell in which a robot is."""
    marks = {}
    for number, (place, loaded) in enumerate(shown):
        letter = LETTERS[number].upper() if loaded else LETTERS[number]
        if len(place) == 1:
            marks[place[0]] = letter + " "
        elif len(place) == 2:
            marks[place[0]] = letter + going_sign(hall, place)
            marks[place[1]] = letter + COMING_SIGN
    return marks


def going_sign(hall, place):
    """The sign for where a robot between two cells goes."""
    (column, row), (far, deep) = hall.places[place[0]], hall.places[place[1]]
    for sign, step in ONE_WAY_STEPS.items():
        if step == (far - column, deep - row):
            return sign
    return None


def read_picture(text):
    """The hall and the robots, up to the last that is not out, whose picture any value is."""
    if not isinstance(text, str):
        raise InvalidPicture(-1)
    rows = text.split("\n")
    robots = read_robots(rows)
    try:
        hall = read_drawing("\n".join([row[::3] for row in rows]))
        picture = hall_picture(hall, robots)
    except (InvalidText, InvalidRobots):
        raise InvalidPicture(-1) from None
    # What is read leniently is drawn again: so nothing but a picture is taken for one.
    if picture != text:
        raise InvalidPicture(-1)
    return (hall, robots)


def read_robots(rows):
    """The robots that rows of signs seem to show, up to the last one's letter."""
    found = {}
    cell = 0
    for row in rows:
        for at in range(0, len(row), 3):
            letter = row[at + 1:at + 2]
            if letter.lower() in list(LETTERS):
                found.setdefault(LETTERS.index(letter.lower()), []).append((cell, letter, row[at + 2:at + 3]))
            if row[at] != NO_CELL:
                cell += 1
    return tuple([read_robot(found.get(number, [])) for number in range(max(list(found), default=-1) + 1)])


def read_robot(marks):
    """The robot that marks (cell, letter, sign behind it) seem to show."""
    place = [cell for cell, _, sign in marks if sign != COMING_SIGN]
    place.extend([cell for cell, _, sign in marks if sign == COMING_SIGN])
    return (tuple(place), any([letter.isupper() for _, letter, _ in marks]))
