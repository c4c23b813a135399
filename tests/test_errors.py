"""[5]: the classes of errors."""

import unittest

from kindspreads import errors

WITH_VALUE = [
    "InvalidTable", "InvalidKinds", "InvalidKind", "InvalidMap", "InvalidTriples", "InvalidRule", "InvalidThings",
    "InvalidBook", "InvalidTerm", "InvalidTerms", "InvalidWord", "InvalidCount", "InvalidPrices", "InvalidHolding",
    "InvalidWorld", "InvalidInputs", "InvalidLines", "InvalidProgram", "InvalidFolding", "InvalidBench",
    "InvalidSpot", "InvalidScript", "InvalidText", "InvalidRecord", "Unlike", "Unsettled", "Apart", "Refused",
]
WITHOUT_VALUE = ["NothingToUndo", "NothingToRedo"]


class ErrorsTest(unittest.TestCase):
    def test_all_classes_are_derived_from_spread_error_alone(self):
        self.assertTrue(issubclass(errors.SpreadError, ValueError))
        every = [getattr(errors, name) for name in WITH_VALUE + WITHOUT_VALUE]
        for one in every:
            self.assertTrue(issubclass(one, errors.SpreadError), one)
            for other in every:
                if one is not other:
                    self.assertFalse(issubclass(one, other), (one, other))

    def test_there_are_no_further_errors(self):
        found = [name for name in vars(errors) if isinstance(getattr(errors, name), type)]
        self.assertEqual(sorted(found), sorted(WITH_VALUE + WITHOUT_VALUE + ["SpreadError"]))

    def test_the_field_keeps_the_very_object(self):
        for name in WITH_VALUE:
            error = getattr(errors, name)
            for value in ([], {}, "text", (1, [2]), True, 0, None):
                self.assertIs(error(value).value, value, name)
                self.assertIs(error(value=value).value, value, name)
            self.assertIsNone(error().value, name)
            with self.assertRaises(TypeError):
                error(1, 2)

    def test_each_error_has_its_own_field(self):
        first, second = errors.InvalidTable([1]), errors.InvalidTable([2])
        self.assertEqual([first.value, second.value], [[1], [2]])

    def test_the_others_are_made_of_nothing(self):
        for name in WITHOUT_VALUE + ["SpreadError"]:
            self.assertFalse(hasattr(getattr(errors, name)(), "value"), name)

    def test_they_can_be_raised_and_caught(self):
        for name in WITH_VALUE + WITHOUT_VALUE + ["SpreadError"]:
            with self.assertRaises(errors.SpreadError):
                raise getattr(errors, name)()
            with self.assertRaises(ValueError):
                raise getattr(errors, name)()


if __name__ == "__main__":
    unittest.main()
