"""The interface of sixtyfold/errors.py."""

import unittest

from sixtyfold import errors
from sixtyfold.errors import BadRow, BadStep, BadText, NoSide, NotTurned, SixtyError


class Refusals(unittest.TestCase):

    def test_sixty_error_stands_under_value_error(self):
        self.assertEqual(SixtyError.__bases__, (ValueError,))

    def test_each_other_stands_right_under_sixty_error(self):
        for refusal in (BadRow, NotTurned, NoSide, BadStep, BadText):
            with self.subTest(refusal=refusal.__name__):
                self.assertEqual(refusal.__bases__, (SixtyError,))
                self.assertEqual(refusal.__module__, "sixtyfold.errors")

    def test_there_are_no_others(self):
        classes = [name for name, thing in vars(errors).items() if isinstance(thing, type)]
        self.assertEqual(sorted(classes), ["BadRow", "BadStep", "BadText", "NoSide", "NotTurned", "SixtyError"])

    def test_fields_are_set_when_created(self):
        self.assertEqual(NotTurned(7).left, 7)
        self.assertEqual(NoSide("two").why, "two")
        step = BadStep(3, "row")
        self.assertEqual((step.at, step.why), (3, "row"))
        self.assertEqual(BadText(4).row, 4)

    def test_fields_by_name(self):
        self.assertEqual(NotTurned(left=7).left, 7)
        self.assertEqual(NoSide(why="left").why, "left")
        step = BadStep(at=20, why="many")
        self.assertEqual((step.at, step.why), (20, "many"))
        self.assertEqual(BadText(row=0).row, 0)

    def test_two_refusals_keep_their_own_fields(self):
        first, second = BadStep(1, "word"), BadStep(2, "name")
        self.assertEqual((first.at, first.why, second.at, second.why), (1, "word", 2, "name"))


if __name__ == "__main__":
    unittest.main()
