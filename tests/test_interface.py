"""The interface: each name stands in its file, what it tells, and that it changes nothing."""

import copy
import inspect
import unittest

from guardrows import errors, guards, loom, search, steps, weaving
from guardrows.loom import Loom

REFUSALS = ["TooMany", "BadStep", "BadBox", "Again", "NotHeld", "NoTurn", "Waits", "Stuck"]

TAKE = ("take",)
FREE = ("free",)
GROW = [("load", 0), ("add", 1), ("store", 0)]


class ErrorsTest(unittest.TestCase):
    def test_weave_error_is_a_value_error(self):
        self.assertTrue(issubclass(errors.WeaveError, ValueError))

    def test_every_refusal_is_a_weave_error(self):
        for name in REFUSALS:
            with self.subTest(name):
                self.assertTrue(issubclass(getattr(errors, name), errors.WeaveError))

    def test_no_refusal_is_caught_as_another_one(self):
        for name in REFUSALS:
            for other in REFUSALS:
                if name != other:
                    with self.subTest(name=name, other=other):
                        kind = getattr(errors, name)
                        self.assertFalse(issubclass(kind, getattr(errors, other)))

    def test_a_refusal_can_be_caught_as_a_value_error(self):
        refused = [
            lambda: Loom([("load", 0)], [], []),
            lambda: weaving.alone([FREE], []),
            lambda: weaving.walked([], [], [], [0]),
            lambda: weaving.woven([TAKE], [TAKE], [], []),
            lambda: guards.ahead([], [], [1]),
            lambda: search.strange([TAKE] * 6, [], []),
        ]
        for call in refused:
            for kind in [ValueError, errors.WeaveError]:
                with self.assertRaises(kind):
                    call()


class PlacesTest(unittest.TestCase):
    def test_errors_are_defined_in_their_file(self):
        for name in ["WeaveError"] + REFUSALS:
            with self.subTest(name):
                self.assertEqual(getattr(errors, name).__module__, "guardrows.errors")

    def test_functions_and_the_class_are_defined_in_their_files(self):
        places = [
            (steps, ["is_step", "apart"]),
            (loom, ["Loom"]),
            (weaving, ["alone", "walked", "woven"]),
            (guards, ["ahead", "guarded", "under_guard"]),
            (search, ["strange"]),
        ]
        for module, names in places:
            for name in names:
                with self.subTest(name):
                    self.assertEqual(getattr(module, name).__module__, module.__name__)

    def test_methods_are_defined_in_the_class_itself(self):
        for name in ["over", "waits", "go", "twin"]:
            with self.subTest(name):
                self.assertIn(name, vars(Loom))

    def test_arguments_have_the_names_of_the_document(self):
        wanted = [
            (steps.is_step, ["thing"]),
            (steps.apart, ["one", "other"]),
            (Loom, ["ones", "others", "boxes"]),
            (Loom.over, ["self", "hand"]),
            (Loom.waits, ["self", "hand"]),
            (Loom.go, ["self", "hand"]),
            (Loom.twin, ["self"]),
            (weaving.alone, ["row", "boxes"]),
            (weaving.walked, ["ones", "others", "boxes", "order"]),
            (weaving.woven, ["ones", "others", "boxes", "turns"]),
            (guards.ahead, ["ones", "others", "order"]),
            (guards.guarded, ["row"]),
            (guards.under_guard, ["row"]),
            (search.strange, ["ones", "others", "boxes"]),
        ]
        for thing, names in wanted:
            with self.subTest(thing=thing):
                self.assertEqual(list(inspect.signature(thing).parameters), names)


class KindsTest(unittest.TestCase):
    def assert_kinds(self, told, kinds):
        """A tuple of just these kinds, each list of whole numbers."""
        self.assertIs(type(told), tuple)
        self.assertEqual([type(part) for part in told], kinds)
        for part in told:
            if type(part) is list:
                self.assertEqual([type(each) for each in part], [int] * len(part))

    def test_alone(self):
        for row, boxes in [(GROW, [5]), ([], []), ([], [5])]:
            self.assert_kinds(weaving.alone(row, boxes), [list, int])

    def test_walked(self):
        for ones, boxes, order in [(GROW, [5], [0, 1, 0]), ([], [], []), (GROW, [5], [])]:
            self.assert_kinds(weaving.walked(ones, ones, boxes, order), [list, list])

    def test_woven(self):
        for ones, boxes, turns in [(GROW, [5], [0, 1, 0]), ([], [], []), ([], [5], [1])]:
            self.assert_kinds(weaving.woven(ones, ones, boxes, turns), [list, list, list])

    def test_ahead(self):
        for ones, order in [(GROW, [0, 1, 0]), ([], []), (GROW, [0, 0, 0, 1, 1, 1])]:
            self.assert_kinds(guards.ahead(ones, ones, order), [bool, bool])

    def test_guarded_and_under_guard(self):
        for row in [[], GROW, [TAKE, FREE], [TAKE], [FREE, TAKE]]:
            self.assertIs(type(guards.guarded(row)), bool)
            self.assertIs(type(guards.under_guard(row)), list)
            self.assertEqual({type(step) for step in guards.under_guard(row)}, {tuple})

    def test_strange(self):
        order = search.strange(GROW, GROW, [5])
        self.assertIs(type(order), list)
        self.assertEqual([type(hand) for hand in order], [int] * 6)
        self.assertEqual(sorted(order), [0, 0, 0, 1, 1, 1])
        self.assertIsNone(search.strange(GROW, [], [5]))


class HandedInTest(unittest.TestCase):
    def assert_unchanged(self, call, *handed):
        """What was handed in is as it was, and what is told is no part of it."""
        before = copy.deepcopy(handed)
        try:
            told = call(*handed)
        except errors.WeaveError:
            told = ()
        with self.subTest(call=call):
            self.assertEqual(handed, before)
            for part in (told, *(told if isinstance(told, tuple) else ())):
                for thing in handed:
                    self.assertFalse(part is thing and type(part) is list)

    def test_nothing_is_changed_where_something_is_told(self):
        guarded = [TAKE] + GROW + [FREE]
        for row in [[], list(GROW), guarded, [("add", 1)] * 5]:
            self.assert_unchanged(weaving.alone, list(row), [5, 6])
            self.assert_unchanged(weaving.walked, list(row), list(GROW), [5, 6], [1, 1])
            self.assert_unchanged(weaving.woven, list(row), list(GROW), [5, 6], [1, 0, 1, 1])
            self.assert_unchanged(weaving.woven, list(row), list(GROW), [5, 6], [])
            self.assert_unchanged(guards.ahead, list(row), list(GROW), [1, 1])
            self.assert_unchanged(guards.guarded, list(row))
            self.assert_unchanged(guards.under_guard, list(row))
            self.assert_unchanged(search.strange, list(row), list(GROW), [5, 6])

    def test_nothing_is_changed_by_a_refusal(self):
        stores = [("add", 1), ("store", 0)]
        self.assert_unchanged(weaving.alone, stores + [FREE], [5])
        self.assert_unchanged(weaving.walked, list(stores), [], [5], [0, 0, 0])
        self.assert_unchanged(weaving.woven, stores + [TAKE], [TAKE], [5], [1, 0])
        self.assert_unchanged(guards.ahead, list(stores), [], [0, 0, 0])
        self.assert_unchanged(search.strange, stores + [FREE], [TAKE, TAKE], [5])

    def test_one_list_as_both_rows(self):
        row, boxes = list(GROW), [5]
        self.assertEqual(weaving.walked(row, row, boxes, [0, 0, 0, 1, 1, 1]), ([7], [6, 7]))
        self.assertEqual(weaving.woven(row, row, boxes, [1])[2], [1, 0, 0, 0, 1, 1])
        self.assertEqual(guards.ahead(row, row, [0, 0, 0, 1, 1, 1]), (True, False))
        self.assertIsNotNone(search.strange(row, row, boxes))
        self.assertEqual((row, boxes), (GROW, [5]))

    def test_a_list_of_turns_that_is_the_order_itself(self):
        turns = [0, 1, 0, 1, 0, 1]
        told = weaving.woven(GROW, GROW, [5], turns)
        self.assertEqual(told[2], turns)
        self.assertIsNot(told[2], turns)


if __name__ == "__main__":
    unittest.main()
