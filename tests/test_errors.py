"""[0.3] The refusals: their classes and their values."""

import copy
import pickle
import unittest

from endsum import errors

WITH_VALUE = [("NoStock", "part"), ("NoDrawing", "part"), ("NoWeights", "part"),
              ("NoText", "at"), ("NotThere", "name")]
WITH_TEXT = ["NoRenaming", "NoMatch", "TooMany", "NoPairing", "NoJoin", "NoName", "NoLeg",
             "NoCounts", "NoColours", "NoNumbers", "NoRow"]
VALUES = ["", "sorts", "any text, / of it", "\n", 0, 1, -1, 10 ** 18, -(10 ** 40), None]


class Classes(unittest.TestCase):
    def test_all_sixteen_stand_straight_under_end_error(self):
        names = [name for name, _ in WITH_VALUE] + WITH_TEXT
        self.assertEqual(len(names), 16)
        for name in names:
            self.assertEqual(getattr(errors, name).__bases__, (errors.EndError,), name)
            self.assertEqual(getattr(errors, name).__module__, "endsum.errors")

    def test_there_are_no_others(self):
        classes = [thing for thing in vars(errors).values() if isinstance(thing, type)]
        self.assertEqual(len(classes), 17)

    def test_end_error_is_a_value_error(self):
        self.assertEqual(errors.EndError.__bases__, (ValueError,))

    def test_none_is_of_another_ones_class(self):
        names = [name for name, _ in WITH_VALUE] + WITH_TEXT
        for one in names:
            refusal = getattr(errors, one)("text")
            self.assertIsInstance(refusal, errors.EndError)
            self.assertIsInstance(refusal, ValueError)
            for other in names:
                self.assertEqual(isinstance(refusal, getattr(errors, other)), one == other)


class Values(unittest.TestCase):
    def test_values_are_kept(self):
        for name, value_name in WITH_VALUE:
            for value in VALUES:
                refusal = getattr(errors, name)(value)
                kept = getattr(refusal, value_name)
                self.assertEqual(kept, value)
                self.assertIs(kept.__class__, value.__class__)

    def test_values_are_kept_when_raised_and_copied(self):
        for name, value_name in WITH_VALUE:
            for value in VALUES:
                with self.assertRaises(errors.EndError) as caught:
                    raise getattr(errors, name)(value)
                for refusal in (caught.exception, copy.copy(caught.exception),
                                pickle.loads(pickle.dumps(caught.exception))):
                    self.assertEqual(getattr(refusal, value_name), value)

    def test_each_has_its_own_value_only(self):
        for name, value_name in WITH_VALUE:
            refusal = getattr(errors, name)(3)
            for other in ("part", "at", "name"):
                self.assertEqual(hasattr(refusal, other), other == value_name)

    def test_those_without_a_value_are_made_of_a_text(self):
        for name in WITH_TEXT + ["EndError"]:
            for text in ("", "why not", "a / b"):
                refusal = getattr(errors, name)(text)
                self.assertEqual(str(refusal), text)
                for value_name in ("part", "at", "name"):
                    self.assertFalse(hasattr(refusal, value_name))

    def test_a_message_can_be_had_of_each(self):
        for name, _ in WITH_VALUE:
            self.assertEqual(str(getattr(errors, name)("sorts")), "sorts")


if __name__ == "__main__":
    unittest.main()
