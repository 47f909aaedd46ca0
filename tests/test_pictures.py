"""[71]: pictures of halls with their robots."""

import itertools
import random
import unittest

from nobodymeets.errors import HallError, InvalidHall, InvalidPicture, InvalidRobots, Refused
from nobodymeets.halls import Hall, hall_text, read_drawing
from nobodymeets.pictures import hall_picture, read_picture
from tests.helpers import PromiseCase, is_tupled, listed, odd_values, same

SIGNS = "#.PHSC><^v"
OUT = ((), False)


def some_halls(seed, many):
    chance = random.Random(seed)
    while many:
        columns = chance.randint(1, 4)
        text = "\n".join("".join(chance.choice(SIGNS + ".....") for _ in range(columns)) for _ in range(chance.randint(1, 4)))
        if set(text) - set("#\n"):
            many -= 1
            yield read_drawing(text)


def some_robots(chance, hall, most):
    """Robots that hold no cell in common, some out, some between two cells."""
    robots, held = [], set()
    for _ in range(chance.randint(0, most)):
        places = [(cell,) for cell in range(hall.cells)] + list(hall.ways) * 2
        place = chance.choice(places)
        if chance.random() < 0.2 or held & set(place):
            robots.append(OUT)
        else:
            held |= set(place)
            robots.append((place, chance.random() < 0.5))
    return tuple(robots)


def plain_picture(hall, robots):
    """The picture, sign by sign, straight from the document."""
    drawing = hall_text(hall).split("\n")
    rows = [["###"] * len(line) for line in drawing]
    for cell, (column, row) in enumerate(hall.places):
        signs = "  "
        for number, (place, loaded) in enumerate(robots):
            letter = chr(ord("A" if loaded else "a") + number)
            if place == (cell,):
                signs = letter + " "
            elif len(place) == 2 and place[1] == cell:
                signs = letter + "*"
            elif len(place) == 2 and place[0] == cell:
                far, deep = hall.places[place[1]]
                signs = letter + {(1, 0): ">", (-1, 0): "<", (0, -1): "^", (0, 1): "v"}[(far - column, deep - row)]
        rows[row][column] = drawing[row][column] + signs
    return "\n".join("".join(row) for row in rows)


def up_to_the_last_that_is_in(robots):
    while robots and robots[-1] == OUT:
        robots = robots[:-1]
    return robots


class PictureTest(PromiseCase):
    def test_example(self):
        hall = read_drawing("P..\n#H.")
        picture = hall_picture(hall, [((0, 1), False), ((3,), True)])
        self.assertEqual(picture, "Pa>.a*.  \n###HB .  ")
        self.tells((hall, (((0, 1), False), ((3,), True))), read_picture, picture)

    def test_without_robots_and_with_all_out(self):
        hall = read_drawing("PH\n#.")
        for robots in ((), [], [((), False)], ([[], False],) * 26):
            self.tells("P  H  \n###.  ", hall_picture, hall, robots)
        self.tells((hall, ()), read_picture, "P  H  \n###.  ")

    def test_one_cell(self):
        self.tells("Ca ", hall_picture, read_drawing("C"), [((0,), False)])
        self.tells("CB ", hall_picture, read_drawing("C"), [OUT, ((0,), True)])
        self.tells((read_drawing("C"), (OUT, ((0,), True))), read_picture, "CB ")

    def test_where_robots_go(self):
        hall = read_drawing("...\n...\n...")
        for other, sign in ((1, "^"), (3, "<"), (5, ">"), (7, "v")):
            for loaded in (False, True):
                letter = "A" if loaded else "a"
                signs = [".  "] * 9
                signs[4], signs[other] = "." + letter + sign, "." + letter + "*"
                picture = "\n".join("".join(signs[at:at + 3]) for at in (0, 3, 6))
                self.tells(picture, hall_picture, hall, [((4, other), loaded)])
                self.tells((hall, (((4, other), loaded),)), read_picture, picture)

    def test_one_way_signs(self):
        hall = read_drawing(">.<\n^.v")
        self.tells(">  .a <  \n^B .  >  ", hall_picture, hall, [((1,), False), ((3,), True)])
        self.tells(">a>.a*<B \n^  .  >c ", hall_picture, hall, [((0, 1), False), ((2,), True), ((5,), False)])
        self.tells(">a*.  <  \n^a^.  >  ", hall_picture, hall, [((3, 0), False)])
        self.told(InvalidRobots, 0, hall_picture, hall, [((2, 5), False)])
        self.told(InvalidRobots, 1, hall_picture, hall, [OUT, ((0, 3), False)])

    def test_walls_at_the_begin_are_drawn_and_at_the_end_are_not(self):
        hall = read_drawing("####\n##P#\n####")
        self.tells("#########\n######Pa ", hall_picture, hall, [((0,), False)])
        self.told(InvalidPicture, -1, read_picture, "############\n######Pa ###\n############")
        far = Hall(("free",), (), ((2, 1),))
        self.tells("#########\n######.  ", hall_picture, far, ())
        self.tells((far, ()), read_picture, "#########\n######.  ")

    def test_26_robots_and_the_27th(self):
        hall = read_drawing("......\n......\n......\n......\n......")
        robots = [((cell,), cell % 2 == 1) for cell in range(26)]
        picture = hall_picture(hall, robots)
        self.assertIn(".a .B .c ", picture)
        self.assertIn(".y .Z ", picture)
        self.tells((hall, tuple(robots)), read_picture, picture)
        self.told(InvalidRobots, 26, hall_picture, hall, robots + [((26,), False)])
        self.told(InvalidRobots, 26, hall_picture, hall, robots + [OUT])
        self.told(InvalidRobots, 26, hall_picture, hall, robots + [None, None])
        self.told(InvalidRobots, 25, hall_picture, hall, robots[:25] + [((0,), False)] * 3)

    def test_wrong_robots(self):
        hall = read_drawing("P>.\n#..")
        for wrong in odd_values() + [((), True), ((5,), False), ((-1,), False), ((0,), 0), ((0,), None), ((0,), 1), ((0,),),
                                     ((0, 2), False), ((1, 0), False), ((0, 0), False), ((0, 1, 2), False), (0, False),
                                     ((True,), False), ((0, True), False), ((None,), True), ((0,), False, False), ("0", False)]:
            self.told(InvalidRobots, 0, hall_picture, hall, [wrong])
            self.told(InvalidRobots, 2, hall_picture, hall, (OUT, ((4,), True), wrong, None))
        for robots, at in (([((0,), False), ((0,), False)], 1), ([((1, 2), False), ((2,), True)], 1),
                           ([((1, 2), False), ((0, 1), False)], 1), ([((1,), False), OUT, ((4,), False), ((2, 1), True)], 3)):
            self.told(InvalidRobots, at, hall_picture, hall, robots)
        for wrong in (None, "", 0, True, hall, {0: 1}):
            self.told(InvalidRobots, -1, hall_picture, hall, wrong)
            self.told(InvalidHall, -1, hall_picture, None, wrong)

    def test_halls_that_have_no_drawing(self):
        self.told(Refused, -1, hall_picture, Hall(("free",), ()), ())
        self.told(InvalidRobots, 0, hall_picture, Hall(("free",), ()), [((1,), False)])
        self.told(Refused, -1, hall_picture, Hall(("free",) * 2, ((0, 1),)), [((0, 1), False)])
        undrawn = Hall(("park", "free", "free"), ((1, 0),), ((0, 0), (1, 0), (2, 0)))
        self.told(Refused, 0, hall_picture, undrawn, [((1,), False)])
        self.told(InvalidRobots, 0, hall_picture, undrawn, [((0, 1), False)])

    def test_other_pictures_are_read_again(self):
        chance = random.Random(1)
        for hall in some_halls(2, 400):
            robots = some_robots(chance, hall, 5)
            picture = hall_picture(hall, robots)
            self.assertEqual(picture, plain_picture(hall, robots))
            told = read_picture(picture)
            self.assertTrue(same(told, (hall, up_to_the_last_that_is_in(robots))), (picture, told))
            self.assertTrue(is_tupled(told))
            self.assertEqual(hall_picture(hall, listed(robots)), picture)

    def test_pictures_changed_by_a_sign(self):
        chance = random.Random(3)
        read = 0
        for hall in some_halls(4, 60):
            picture = hall_picture(hall, some_robots(chance, hall, 3))
            for text in self.changed(chance, picture):
                read += self.check_text(text)
        self.assertGreater(read, 100)

    def changed(self, chance, text):
        """Texts with a sign changed, put in or left out."""
        for at in range(len(text) + 1):
            if at < len(text):
                yield text[:at] + text[at + 1:]
            for sign in chance.sample(SIGNS + "abcABCz* \n", 8):
                yield text[:at] + sign + text[at:]
                if at < len(text):
                    yield text[:at] + sign + text[at + 1:]

    def check_text(self, text):
        """Whether a text is read; then it is just the picture of what it is read as."""
        try:
            hall, robots = read_picture(text)
        except HallError as caught:
            self.assertEqual((type(caught), caught.at), (InvalidPicture, -1))
            return 0
        self.assertEqual(plain_picture(hall, robots), text)
        self.assertEqual(robots, up_to_the_last_that_is_in(robots))
        return 1

    def test_all_short_texts(self):
        signs = ".#aA* >"
        pictures = set()
        for hall in (read_drawing("."), read_drawing("..")):
            for robots in ((), (((0,), False),), (((0,), True),), (((1,), False),), (((1,), True),), (((0, 1), False),),
                           (((0, 1), True),), (((1, 0), False),), (((1, 0), True),)):
                try:
                    pictures.add(hall_picture(hall, robots))
                except InvalidRobots:
                    pass
        read = {"".join(text) for text in itertools.product(signs, repeat=3) if self.check_text("".join(text))}
        self.assertEqual(read, {picture for picture in pictures if len(picture) == 3})
        read = {"." + "".join(text[:2]) + "." + "".join(text[2:]) for text in itertools.product("aA* ><", repeat=4)
                if self.check_text("." + "".join(text[:2]) + "." + "".join(text[2:]))}
        self.assertEqual(read, {picture for picture in pictures if len(picture) == 6})

    def test_what_is_no_picture(self):
        for text in ("", "\n", "#", "###", ".", ". ", ".a", ". a", ".  \n", "\n.  ", ".  \n.  .  ", ".  .", ".  \n\n.  ", ".b* ",
                     ".a .a ", ".a .A ", ".a>.A*", ".a*.a*", ".a>.a>", ".a>.a<", ".a*.a<.a ", ".a>.  .a*", ".a>.a*.a ", ".a<.a*",
                     ".  .a*", ".a>.  ", "## .  ", "#a#.  ", "#  .  ", ".1 ", ".a! ", "x  ", ".  ###", ".  \n###",
                     "^  .  ", ".  v  ", "v  ", ".\u0131 ", ".\u212a ", ".\u0130 ", "\u212a  "):
            self.told(InvalidPicture, -1, read_picture, text)
        self.assertEqual(read_picture("###\n.  ")[0], Hall(("free",), (), ((0, 1),)))
        for value in odd_values() + [b".  ", [".  "]]:
            self.told(InvalidPicture, -1, read_picture, value)

    def test_large_texts(self):
        text = "\n".join([".  " * 20] * 20)
        self.assertEqual(read_picture(text)[0].cells, 400)
        self.told(InvalidPicture, -1, read_picture, "\n".join([".  " * 21] * 20))
        self.told(InvalidPicture, -1, read_picture, "x" * 10000)


if __name__ == "__main__":
    unittest.main()
