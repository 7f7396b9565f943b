"""The error classes: their bases, their texts and their fields."""

import inspect
import unittest

from platerest import errors

WITH_TEXT = (
    "NoWhole", "NoFraction", "NoRows", "NoPlate", "NoMotions", "NoLoads", "NoHolding", "NoWays", "NoWay", "NoPiece",
    "NoStresses", "NoBalance", "NoRest", "NoRounds", "NoFrame", "NoLot", "NoInner", "NoTurning", "NoFirm", "NoThick",
    "NoDeed", "NoDeeds", "NotHeld", "NoLine",
)
WITH_FIELDS = ("TooMany", "NoText")


class Errors(unittest.TestCase):
    def test_the_root_stands_under_value_error(self):
        self.assertEqual(errors.PlateError.__bases__, (ValueError,))

    def test_every_class_stands_straight_under_the_root(self):
        for name in WITH_TEXT + WITH_FIELDS:
            with self.subTest(name):
                self.assertEqual(getattr(errors, name).__bases__, (errors.PlateError,))

    def test_there_is_no_class_else(self):
        found = [name for name, thing in vars(errors).items() if inspect.isclass(thing)]
        self.assertEqual(sorted(found), sorted(WITH_TEXT + WITH_FIELDS + ("PlateError",)))

    def test_a_text_is_told_again(self):
        for name in WITH_TEXT + ("PlateError",):
            with self.subTest(name):
                self.assertEqual(str(getattr(errors, name)("so it is")), "so it is")

    def test_a_class_is_taken_as_itself_and_as_the_root_alone(self):
        for name in WITH_TEXT:
            for other in WITH_TEXT + WITH_FIELDS:
                with self.subTest(name + " " + other):
                    same = isinstance(getattr(errors, name)("why"), getattr(errors, other))
                    self.assertEqual(same, name == other)

    def test_too_many_has_its_fields(self):
        by_place = errors.TooMany(31, 30)
        by_name = errors.TooMany(most=40, many=44)
        self.assertEqual((by_place.many, by_place.most), (31, 30))
        self.assertEqual((by_name.many, by_name.most), (44, 40))
        self.assertIsInstance(str(by_place), str)

    def test_no_text_has_its_field(self):
        self.assertEqual(errors.NoText(0).row, 0)
        self.assertEqual(errors.NoText(row=7).row, 7)
        self.assertIsInstance(str(errors.NoText(1)), str)

    def test_the_arguments_have_their_names(self):
        self.assertEqual(str(inspect.signature(errors.TooMany)), "(many, most)")
        self.assertEqual(str(inspect.signature(errors.NoText)), "(row)")

    def test_fields_are_kept_when_raised(self):
        with self.assertRaises(errors.PlateError) as caught:
            raise errors.TooMany(41, 40)
        self.assertEqual((caught.exception.many, caught.exception.most), (41, 40))
        with self.assertRaises(ValueError) as caught:
            raise errors.NoText(3)
        self.assertEqual(caught.exception.row, 3)


if __name__ == "__main__":
    unittest.main()
