"""[4]: the errors."""

import unittest

from nobodymeets import errors
from nobodymeets.errors import HallError

WITH_AT = """InvalidText InvalidHall InvalidCell InvalidLot InvalidWays InvalidWay InvalidTies InvalidBlocks
InvalidRobots InvalidPlan InvalidTask InvalidOrders InvalidStanding InvalidHolds InvalidLetter InvalidBook
InvalidScript InvalidStretches InvalidTable InvalidGoods InvalidStock InvalidDeeds InvalidWants InvalidComings
InvalidLots InvalidLines InvalidHomes InvalidLanes InvalidPrices InvalidRoutes InvalidPicture InvalidIndex
Refused""".split()
FIELDS = {**{name: "at" for name in WITH_AT}, "InvalidSize": "word", "NoRobot": "robot"}


class ErrorsTest(unittest.TestCase):
    def test_base_class(self):
        self.assertEqual(HallError.__bases__, (Exception,))
        self.assertEqual(HallError.__module__, "nobodymeets.errors")
        self.assertIsInstance(HallError(), Exception)

    def test_each_class_is_there_and_derives_straight_from_the_base_class(self):
        self.assertEqual(len(FIELDS), 35)
        for name in list(FIELDS) + ["InvalidCommand"]:
            error = getattr(errors, name)
            self.assertEqual(error.__bases__, (HallError,), name)
            self.assertEqual(error.__name__, name)
            self.assertEqual(error.__module__, "nobodymeets.errors")

    def test_none_is_another_one(self):
        classes = [getattr(errors, name) for name in list(FIELDS) + ["InvalidCommand"]]
        self.assertEqual(len(set(classes)), 36)
        for one in classes:
            self.assertEqual([other for other in classes if issubclass(one, other)], [one])

    def test_each_keeps_what_it_is_made_of(self):
        things = [0, -1, True, None, "free", (1, 2), [1, [2]], object(), HallError()]
        for name, field in FIELDS.items():
            error = getattr(errors, name)
            for thing in things:
                self.assertIs(getattr(error(thing), field), thing, name)
                self.assertIs(getattr(error(**{field: thing}), field), thing, name)

    def test_each_takes_just_one_thing(self):
        for name in FIELDS:
            error = getattr(errors, name)
            self.assertRaises(TypeError, error)
            self.assertRaises(TypeError, error, 1, 2)

    def test_a_wrong_command_keeps_nothing(self):
        self.assertEqual(vars(errors.InvalidCommand()), {})

    def test_they_can_be_raised_and_caught(self):
        for name in FIELDS:
            error = getattr(errors, name)
            with self.assertRaises(HallError) as caught:
                raise error(3)
            self.assertIs(type(caught.exception), error)


if __name__ == "__main__":
    unittest.main()
