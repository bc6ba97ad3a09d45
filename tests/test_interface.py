"""The interface: each name stands in its file, and each refusal is a WeaveError."""

import inspect
import unittest

from guardrows import errors, loom, steps
from guardrows.loom import Loom

REFUSALS = ["TooMany", "BadStep", "BadBox", "Again", "NotHeld", "NoTurn", "Waits", "Stuck"]


class ErrorsTest(unittest.TestCase):
    def test_weave_error_is_a_value_error(self):
        self.assertTrue(issubclass(errors.WeaveError, ValueError))

    def test_every_refusal_is_a_weave_error(self):
        for name in REFUSALS:
            with self.subTest(name):
                self.assertTrue(issubclass(getattr(errors, name), errors.WeaveError))

    def test_no_refusal_is_caught_as_another_one(self):
        for name in REFUSALS:
            for other in REFUSALS:
                if name != other:
                    with self.subTest(name=name, other=other):
                        kind = getattr(errors, name)
                        self.assertFalse(issubclass(kind, getattr(errors, other)))

    def test_a_refusal_can_be_caught_as_a_value_error(self):
        with self.assertRaises(ValueError):
            Loom([("load", 0)], [], [])


class PlacesTest(unittest.TestCase):
    def test_errors_are_defined_in_their_file(self):
        for name in ["WeaveError"] + REFUSALS:
            with self.subTest(name):
                self.assertEqual(getattr(errors, name).__module__, "guardrows.errors")

    def test_functions_and_the_class_are_defined_in_their_files(self):
        self.assertEqual(steps.is_step.__module__, "guardrows.steps")
        self.assertEqual(steps.apart.__module__, "guardrows.steps")
        self.assertEqual(loom.Loom.__module__, "guardrows.loom")

    def test_methods_are_defined_in_the_class_itself(self):
        for name in ["over", "waits", "go", "twin"]:
            with self.subTest(name):
                self.assertIn(name, vars(Loom))

    def test_arguments_have_the_names_of_the_document(self):
        wanted = [
            (steps.is_step, ["thing"]),
            (steps.apart, ["one", "other"]),
            (Loom, ["ones", "others", "boxes"]),
            (Loom.over, ["self", "hand"]),
            (Loom.waits, ["self", "hand"]),
            (Loom.go, ["self", "hand"]),
            (Loom.twin, ["self"]),
        ]
        for thing, names in wanted:
            with self.subTest(thing=thing):
                self.assertEqual(list(inspect.signature(thing).parameters), names)


if __name__ == "__main__":
    unittest.main()
