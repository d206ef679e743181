"""Point 4 and the heading legsteps/errors.py."""

import inspect
import unittest

from legsteps import errors
from samples import FRACTIONS, ODD_PAIRS, ODD_ROWS, ODD_VALUES

WITH_GIVEN = (
    "InvalidFraction", "InvalidNumber", "InvalidIndex", "InvalidPoint", "InvalidPolynomial", "InvalidRule", "InvalidSlope",
    "InvalidRatio", "InvalidSize", "InvalidTable", "InvalidName", "InvalidWish", "InvalidPhrase", "UnknownName", "NotAWorkshop",
)
WITH_INDEX = ("InvalidStarts", "InUse", "Broken")
WITHOUT = ("NotLevel", "NotExplicit", "UnlikeSteps", "TooManySteps", "LostStep", "NothingToUndo")
ANYTHING = ODD_VALUES + ODD_PAIRS + ODD_ROWS + FRACTIONS


class Errors(unittest.TestCase):

    def check_keeps(self, names, attribute):
        for name in names:
            kind = getattr(errors, name)
            for value in ANYTHING:
                for made in (kind(value), kind(**{attribute: value})):
                    self.assertIs(getattr(made, attribute), value)
                    self.assertEqual(list(vars(made)), [attribute])

    def test_given_is_kept_by_position_and_by_name(self):
        self.check_keeps(WITH_GIVEN, "given")

    def test_index_is_kept_by_position_and_by_name(self):
        self.check_keeps(WITH_INDEX, "index")

    def test_attributes_are_needed_and_no_others_taken(self):
        for name in WITH_GIVEN + WITH_INDEX:
            kind = getattr(errors, name)
            wrong = "index" if name in WITH_GIVEN else "given"
            self.assertRaises(TypeError, kind)
            self.assertRaises(TypeError, kind, 1, 2)
            self.assertRaises(TypeError, kind, **{wrong: 1})

    def test_those_without_attributes_are_made_without_any(self):
        for name in WITHOUT + ("StepError",):
            self.assertEqual(vars(getattr(errors, name)()), {})

    def test_each_stands_under_step_error_alone(self):
        above = (errors.StepError, ValueError, Exception, BaseException, object)
        self.assertEqual(inspect.getmro(errors.StepError), above)
        for name in WITH_GIVEN + WITH_INDEX + WITHOUT:
            kind = getattr(errors, name)
            self.assertEqual(inspect.getmro(kind), (kind,) + above)

    def test_they_are_raised_and_caught_under_their_base(self):
        for name in WITH_GIVEN + WITH_INDEX:
            with self.assertRaises(errors.StepError) as caught:
                raise getattr(errors, name)([1])
            self.assertIs(caught.exception.__class__, getattr(errors, name))
        for name in WITHOUT:
            with self.assertRaises(ValueError) as caught:
                raise getattr(errors, name)()
            self.assertIs(caught.exception.__class__, getattr(errors, name))

    def test_the_classes_are_these_and_defined_here(self):
        found = [name for name, each in vars(errors).items() if inspect.isclass(each)]
        self.assertEqual(sorted(found), sorted(WITH_GIVEN + WITH_INDEX + WITHOUT + ("StepError",)))
        for name in found:
            self.assertEqual(getattr(errors, name).__module__, "legsteps.errors")


if __name__ == "__main__":
    unittest.main()
