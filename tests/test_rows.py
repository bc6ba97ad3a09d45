"""Points 1 and 3: which rows and boxes are handed in, and how rows are refused."""

import unittest

from guardrows.errors import BadBox, BadStep, TooMany
from guardrows.loom import Loom
from tests.helper import SEVEN, SIXTY_FIGURES, standing

GOOD = ("add", 1)
NO_STEP = ("sub", 1)
NO_BOX = ("load", 2)
TWO_BOXES = [4, 5]


class TakenTest(unittest.TestCase):
    def test_empty_rows_and_no_boxes(self):
        loom = Loom([], [], [])
        self.assertEqual(standing(loom), ([], [0, 0], [0, 0], None, [True, True], [False, False]))

    def test_one_empty_row(self):
        self.assertEqual(standing(Loom([], [GOOD], []))[4], [True, False])
        self.assertEqual(standing(Loom([GOOD], [], []))[4], [False, True])

    def test_none_to_nine_boxes(self):
        for many in range(10):
            with self.subTest(many=many):
                boxes = [-n for n in range(many)]
                row = [(word, box) for word in ("load", "plus", "store") for box in range(many)]
                loom = Loom(row, row, boxes)
                self.assertEqual(loom.boxes, boxes)
                self.assertIs(type(loom.boxes), list)

    def test_steps_without_a_box_need_no_boxes(self):
        row = SEVEN[3:]
        self.assertEqual(Loom(row, row, []).boxes, [])

    def test_the_number_of_an_add_is_no_box(self):
        for n in [7, -1, SIXTY_FIGURES, -SIXTY_FIGURES]:
            self.assertEqual(Loom([("add", n)], [("add", n)], []).places, [0, 0])

    def test_a_row_of_sixty_is_not_too_long(self):
        for ones, others in [([GOOD] * 60, []), ([], [GOOD] * 60), ([GOOD] * 60, [GOOD] * 60)]:
            loom = Loom(ones, others, [])
            for hand in [0, 1]:
                for _ in [ones, others][hand]:
                    loom.go(hand)
            self.assertEqual(loom.numbers, [len(ones), len(others)])

    def test_the_fields_at_first(self):
        loom = Loom([GOOD], [GOOD], TWO_BOXES)
        self.assertEqual(loom.numbers, [0, 0])
        self.assertEqual(loom.places, [0, 0])
        self.assertIs(type(loom.numbers), list)
        self.assertIs(type(loom.places), list)
        self.assertIsNone(loom.holder)


class RefusedTest(unittest.TestCase):
    def assert_refused(self, kind, row, boxes=TWO_BOXES):
        """The row is refused as the first one, and as the second one."""
        with self.subTest(row=row, boxes=boxes):
            for ones, others in [(row, []), ([], row), (row, [GOOD]), ([GOOD], row)]:
                with self.assertRaises(kind) as caught:
                    Loom(ones, others, boxes)
                self.assertIs(type(caught.exception), kind)

    def test_a_row_of_more_than_sixty(self):
        self.assert_refused(TooMany, [GOOD] * 61)
        self.assert_refused(TooMany, [GOOD] * 200)

    def test_too_many_comes_ahead_of_the_steps(self):
        self.assert_refused(TooMany, [NO_STEP] + [GOOD] * 60)
        self.assert_refused(TooMany, [NO_BOX] + [GOOD] * 60)
        self.assert_refused(TooMany, [None] * 61)

    def test_what_is_no_step(self):
        for thing in [NO_STEP, ("load",), ("load", 0, 0), ("add",), ("twice", 0), ("take", 0),
                      ("free", 0), ("load", True), ("store", False), ("add", True), ("plus", None),
                      ("add", "1"), ("load", 0.0), (), ["add", 1], ["take"], "take", None, 0, {}]:
            self.assert_refused(BadStep, [thing])
            self.assert_refused(BadStep, [GOOD, ("load", 1), thing, GOOD])
            self.assert_refused(BadStep, [GOOD] * 59 + [thing])

    def test_a_box_that_is_not_there(self):
        for word in ["load", "plus", "store"]:
            self.assert_refused(BadBox, [(word, 0)], [])
            for box in [2, 3, 9, SIXTY_FIGURES, -1, -2, -3, -SIXTY_FIGURES]:
                self.assert_refused(BadBox, [(word, box)])
                self.assert_refused(BadBox, [GOOD, (word, 1), (word, box), GOOD])
                self.assert_refused(BadBox, [GOOD] * 59 + [(word, box)])

    def test_the_box_past_the_last_one_of_nine(self):
        self.assert_refused(BadBox, [("load", 9)], [0] * 9)

    def test_a_row_is_looked_at_step_by_step(self):
        self.assert_refused(BadStep, [NO_STEP, NO_BOX])
        self.assert_refused(BadBox, [NO_BOX, NO_STEP])
        self.assert_refused(BadStep, [GOOD, NO_STEP, NO_BOX, NO_STEP])
        self.assert_refused(BadBox, [GOOD, NO_BOX, NO_STEP, NO_BOX])

    def test_a_box_that_is_no_whole_number_is_no_step(self):
        self.assert_refused(BadStep, [("load", True)], [])
        self.assert_refused(BadStep, [("load", "9")], [])

    def test_the_first_row_is_looked_at_ahead_of_the_second(self):
        rows = [(TooMany, [GOOD] * 61), (BadStep, [GOOD, NO_STEP]), (BadBox, [GOOD, GOOD, NO_BOX])]
        for kind, ones in rows:
            for other_kind, others in rows:
                with self.subTest(kind=kind, other_kind=other_kind):
                    with self.assertRaises(kind):
                        Loom(ones, others, TWO_BOXES)

    def test_rows_are_refused_ahead_of_what_comes_when_they_are_done(self):
        self.assert_refused(BadStep, [("free",), ("take",), ("take",), NO_STEP])


class HandedInTest(unittest.TestCase):
    def test_a_refusal_changes_nothing_that_was_handed_in(self):
        ones, others, boxes = [GOOD, ("store", 0)], [("load", 0), NO_STEP], [4, 5]
        with self.assertRaises(BadStep):
            Loom(ones, others, boxes)
        self.assertEqual(ones, [GOOD, ("store", 0)])
        self.assertEqual(others, [("load", 0), NO_STEP])
        self.assertEqual(boxes, [4, 5])


if __name__ == "__main__":
    unittest.main()
