"""Section 2: the errors."""

import unittest

from shiftfolds import errors

from tests.helpers import strange_objects

WITH_FIELD = """
InvalidValue InvalidOperation InvalidLikeness InvalidKind InvalidTable InvalidKinds InvalidHolding InvalidTyping
InvalidFolding InvalidMap InvalidTriples InvalidBase InvalidWord InvalidRow InvalidGrouping InvalidBlock InvalidBlocks
InvalidCut InvalidDeed InvalidInputs InvalidPrices InvalidWeights InvalidHands InvalidLosses InvalidCount
InvalidProgram InvalidName InvalidPlan InvalidChange InvalidChanges InvalidWorks InvalidSpot InvalidScript InvalidText
InvalidLog Unlike Unsettled Apart Refused
""".split()
WITHOUT_FIELD = ["FoldError", "NothingToUndo", "NothingToRedo"]


class ErrorsTest(unittest.TestCase):
    def test_all_classes_are_there(self):
        self.assertEqual(len(set(WITH_FIELD)), 39)
        for name in WITH_FIELD + WITHOUT_FIELD:
            self.assertEqual(getattr(errors, name).__module__, "shiftfolds.errors")
            self.assertEqual(getattr(errors, name).__name__, name)

    def test_fold_error_is_a_value_error(self):
        self.assertTrue(issubclass(errors.FoldError, ValueError))

    def test_none_is_derived_from_another_one(self):
        classes = [getattr(errors, name) for name in WITH_FIELD + WITHOUT_FIELD[1:]]
        for one in classes:
            self.assertTrue(issubclass(one, errors.FoldError), one)
            for other in classes:
                self.assertEqual(issubclass(one, other), one is other)

    def test_field_holds_the_very_object(self):
        for name in WITH_FIELD:
            made = getattr(errors, name)
            for held in strange_objects():
                self.assertIs(made(held).value, held)
                self.assertIs(made(value=held).value, held)

    def test_field_is_none_without_an_argument(self):
        for name in WITH_FIELD:
            self.assertIsNone(getattr(errors, name)().value)

    def test_a_list_changed_later_is_changed_in_the_field(self):
        for name in WITH_FIELD:
            held = ["a"]
            error, told = getattr(errors, name)(held), getattr(errors, name)(value=held)
            held.append("b")
            self.assertEqual((error.value, told.value), (["a", "b"], ["a", "b"]))

    def test_others_are_made_without_arguments(self):
        for name in WITHOUT_FIELD:
            with self.assertRaises(getattr(errors, name)):
                raise getattr(errors, name)()

    def test_each_one_is_caught_as_a_fold_error(self):
        for name in WITH_FIELD:
            with self.assertRaises(errors.FoldError) as caught:
                raise getattr(errors, name)("x")
            self.assertEqual((type(caught.exception).__name__, caught.exception.value), (name, "x"))


if __name__ == "__main__":
    unittest.main()
