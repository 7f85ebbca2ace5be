"""Point 2 and the interface's section on errors."""

import unittest

from sawwhen import errors

PLAIN = ("BadHouse", "BadRule", "BadState", "BadPerson", "BadFolder", "BadDeed", "BadCase", "BadOrder", "BadLook",
         "BadKnown", "BadClash", "BadLot", "TooMany", "NotSure", "BadEvent", "BadSpread", "NothingToUndo", "BadCommand",
         "NoCase", "BadClaim", "BadPeople", "Full")
ALL = PLAIN + ("BadDeeds", "BadText")


class Errors(unittest.TestCase):
    def test_sight_error_is_a_value_error(self):
        self.assertEqual(errors.SightError.__bases__, (ValueError,))

    def test_there_are_twenty_four_directly_under_it(self):
        self.assertEqual(len(set(ALL)), 24)
        for name in ALL:
            with self.subTest(name):
                self.assertEqual(getattr(errors, name).__bases__, (errors.SightError,))

    def test_each_is_defined_in_its_module(self):
        for name in ALL + ("SightError",):
            with self.subTest(name):
                self.assertEqual(getattr(errors, name).__name__, name)
                self.assertEqual(getattr(errors, name).__module__, "sawwhen.errors")

    def test_none_is_caught_as_another(self):
        for name in ALL:
            for other in ALL:
                if name != other:
                    self.assertFalse(issubclass(getattr(errors, name), getattr(errors, other)), (name, other))

    def test_plain_ones_are_made_with_one_text(self):
        for name in PLAIN:
            with self.subTest(name):
                with self.assertRaises(errors.SightError) as caught:
                    raise getattr(errors, name)("why it is so")
                self.assertIn("why it is so", str(caught.exception))

    def test_bad_deeds_has_the_place(self):
        for place in (-1, 0, 7, 60):
            with self.assertRaises(errors.SightError) as caught:
                raise errors.BadDeeds(place)
            self.assertEqual(caught.exception.place, place)
            self.assertEqual(errors.BadDeeds(place=place).place, place)

    def test_bad_text_has_the_line(self):
        for line in (0, 1, 25):
            with self.assertRaises(errors.SightError) as caught:
                raise errors.BadText(line)
            self.assertEqual(caught.exception.line, line)
            self.assertEqual(errors.BadText(line=line).line, line)

    def test_fields_belong_to_each_object(self):
        first, second = errors.BadDeeds(1), errors.BadDeeds(2)
        self.assertEqual((first.place, second.place), (1, 2))
        first, second = errors.BadText(3), errors.BadText(4)
        self.assertEqual((first.line, second.line), (3, 4))


if __name__ == "__main__":
    unittest.main()
