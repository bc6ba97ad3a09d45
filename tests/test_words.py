"""Points 1, 2 and 5: what each word does, step by step, to each hand."""

import unittest

from guardrows.loom import Loom
from tests.helper import SIXTY_FIGURES, gone


class WordTest(unittest.TestCase):
    def assert_last_step(self, row, boxes, boxes_then, number_then, holder_then=None):
        """A row that one hand does, told in full, for the first hand and for the second."""
        idle = [("add", 99)]
        for hand in [0, 1]:
            with self.subTest(row=row, boxes=boxes, hand=hand):
                rows = [row, idle] if hand == 0 else [idle, row]
                loom = gone(rows[0], rows[1], boxes, [hand] * len(row))
                numbers, places = [0, 0], [0, 0]
                numbers[hand] = number_then
                places[hand] = len(row)
                self.assertEqual(loom.boxes, boxes_then)
                self.assertEqual(loom.numbers, numbers)
                self.assertEqual(loom.places, places)
                self.assertEqual(loom.holder, hand if holder_then == "self" else holder_then)

    def test_load(self):
        self.assert_last_step([("load", 1)], [7, -8, 9], [7, -8, 9], -8)
        self.assert_last_step([("add", 3), ("load", 0)], [7, -8], [7, -8], 7)

    def test_plus(self):
        self.assert_last_step([("plus", 1)], [7, -8, 9], [7, -8, 9], -8)
        self.assert_last_step([("add", 3), ("plus", 0), ("plus", 0)], [7], [7], 17)
        self.assert_last_step([("add", 3), ("plus", 0)], [-7], [-7], -4)

    def test_store(self):
        self.assert_last_step([("store", 1)], [7, 8, 9], [7, 0, 9], 0)
        self.assert_last_step([("add", -3), ("store", 0)], [7, 8], [-3, 8], -3)
        self.assert_last_step([("add", 4), ("store", 0), ("add", 1), ("store", 1)], [7, 8], [4, 5], 5)

    def test_add(self):
        self.assert_last_step([("add", 5)], [7], [7], 5)
        self.assert_last_step([("add", 5), ("add", -9)], [7], [7], -4)
        self.assert_last_step([("add", 5), ("add", 0)], [], [], 5)

    def test_twice(self):
        self.assert_last_step([("twice",)], [7], [7], 0)
        self.assert_last_step([("add", 3), ("twice",)], [7], [7], 6)
        self.assert_last_step([("add", -3), ("twice",), ("twice",)], [7], [7], -12)

    def test_take(self):
        self.assert_last_step([("take",)], [7], [7], 0, "self")
        self.assert_last_step([("add", 3), ("take",)], [7], [7], 3, "self")

    def test_free(self):
        self.assert_last_step([("take",), ("free",)], [7], [7], 0)
        self.assert_last_step([("add", 3), ("take",), ("free",)], [7], [7], 3)

    def test_the_guard_keeps_nobody_from_the_boxes(self):
        loom = gone([("take",)], [("add", 2), ("store", 0), ("load", 1)], [7, 8], [0, 1, 1, 1])
        self.assertEqual((loom.boxes, loom.numbers, loom.holder), ([2, 8], [0, 8], 0))

    def test_numbers_of_sixty_figures(self):
        big = SIXTY_FIGURES
        self.assert_last_step([("load", 0), ("add", big), ("store", 1)], [big, 0], [big, 2 * big], 2 * big)
        self.assert_last_step([("load", 0), ("add", -big), ("plus", 0)], [-big], [-big], -3 * big)
        self.assert_last_step([("add", big)] + [("twice",)] * 59, [], [], big * 2 ** 59)

    def test_the_last_box_of_nine(self):
        boxes = list(range(9))
        self.assert_last_step([("load", 8), ("store", 0)], boxes, [8] + boxes[1:], 8)

    def test_go_tells_nothing(self):
        row = [("load", 0), ("plus", 0), ("store", 0), ("add", 5), ("twice",), ("take",), ("free",)]
        loom = Loom(row, [], [4])
        for _ in row:
            self.assertIsNone(loom.go(0))


class ByTurnsTest(unittest.TestCase):
    def test_both_hands_step_by_step(self):
        ones = [("take",), ("load", 0), ("add", 1), ("store", 0), ("free",), ("twice",)]
        others = [("load", 1), ("plus", 0), ("take",), ("store", 1), ("free",)]
        loom = Loom(ones, others, [10, 20])
        wanted = [
            (1, [10, 20], [0, 20], [0, 1], None),
            (0, [10, 20], [0, 20], [1, 1], 0),
            (0, [10, 20], [10, 20], [2, 1], 0),
            (1, [10, 20], [10, 30], [2, 2], 0),
            (0, [10, 20], [11, 30], [3, 2], 0),
            (0, [11, 20], [11, 30], [4, 2], 0),
            (0, [11, 20], [11, 30], [5, 2], None),
            (1, [11, 20], [11, 30], [5, 3], 1),
            (1, [11, 30], [11, 30], [5, 4], 1),
            (0, [11, 30], [22, 30], [6, 4], 1),
            (1, [11, 30], [22, 30], [6, 5], None),
        ]
        for hand, boxes, numbers, places, holder in wanted:
            loom.go(hand)
            with self.subTest(places=places):
                self.assertEqual(loom.boxes, boxes)
                self.assertEqual(loom.numbers, numbers)
                self.assertEqual(loom.places, places)
                self.assertEqual(loom.holder, holder)

    def test_two_additions_that_lose_one(self):
        row = [("load", 0), ("add", 1), ("store", 0)]
        self.assertEqual(gone(row, row, [5], [0, 0, 0, 1, 1, 1]).boxes, [7])
        self.assertEqual(gone(row, row, [5], [0, 1, 0, 1, 0, 1]).boxes, [6])

    def test_an_order_that_ends_ahead_of_the_rows(self):
        loom = gone([("add", 1), ("store", 0), ("twice",)], [("load", 0), ("twice",)], [5], [0, 1, 0])
        self.assertEqual((loom.boxes, loom.numbers, loom.places), ([1], [1, 5], [2, 1]))


if __name__ == "__main__":
    unittest.main()
