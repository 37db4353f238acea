"""Point [3]: the error classes."""

import inspect
import unittest

from dueanywhere import errors

WITH_TEXT = """InvalidSystem InvalidBounds InvalidPoint InvalidSpots InvalidWorld InvalidClaims InvalidIndex
InvalidNumber InvalidWeights InvalidPairs InvalidItems InvalidLine InvalidPlaces InvalidBook InvalidEntry InvalidTie
InvalidPlace
InvalidDay InvalidTerm InvalidHolidays InvalidPast InvalidMoney InvalidTransfers InvalidMarks InvalidStaging
InvalidCosts InvalidSpan InvalidCharges InvalidTariffs InvalidNews InvalidQuestion InvalidLooks InvalidCouples
InvalidOffers InvalidAmount InvalidLog InvalidCommand EndlessWorlds TooMany Unsteady NothingToUndo NoBlock
UnlikePlaces ClosedAlready NotReady""".split()
WITH_FIELD = {"NoWorld": "ring", "NoSet": "clash", "Contradicted": "deeds", "TooLate": "closing",
              "InvalidWords": "place"}


class ErrorClasses(unittest.TestCase):
    def test_all_are_there_and_no_others(self):
        told = {name for name, value in vars(errors).items() if inspect.isclass(value)}
        self.assertEqual(told, set(WITH_TEXT) | set(WITH_FIELD) | {"DueError"})
        self.assertEqual(len(WITH_TEXT), 45)

    def test_due_error_is_a_value_error(self):
        self.assertEqual(errors.DueError.__bases__, (ValueError,))

    def test_each_stands_directly_under_due_error(self):
        for name in WITH_TEXT + list(WITH_FIELD):
            kind = getattr(errors, name)
            self.assertEqual(kind.__bases__, (errors.DueError,), name)
            self.assertEqual(kind.__module__, "dueanywhere.errors", name)

    def test_each_is_created_with_one_text(self):
        for name in ["DueError"] + WITH_TEXT:
            error = getattr(errors, name)("a text")
            self.assertEqual(str(error), "a text", name)
            self.assertEqual(error.args, ("a text",), name)

    def test_fields(self):
        for name, field in WITH_FIELD.items():
            kind = getattr(errors, name)
            for value in ([4, 2, 0], [], 3, 0):
                self.assertIs(getattr(kind(value), field), value, name)
                self.assertIs(getattr(kind(**{field: value}), field), value, name)
            with self.assertRaises(TypeError, msg=name):
                kind()

    def test_they_are_caught_as_due_errors_and_value_errors(self):
        for caught in (errors.DueError, ValueError):
            with self.assertRaises(caught):
                raise errors.NoWorld([0])
            with self.assertRaises(caught):
                raise errors.InvalidSystem("none")


if __name__ == "__main__":
    unittest.main()
