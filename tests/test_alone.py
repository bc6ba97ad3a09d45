"""Points 1, 2 and 4: one row that is done alone."""

import random
import unittest

from guardrows.errors import Again, NotHeld
from guardrows.weaving import alone
from tests.helper import SIXTY_FIGURES, came_to, drawn_boxes, drawn_row, plainly

TAKE = ("take",)
FREE = ("free",)


class AloneTest(unittest.TestCase):
    def assert_told(self, row, boxes, boxes_then, number_then):
        with self.subTest(row=row, boxes=boxes):
            self.assertEqual(alone(row, boxes), (boxes_then, number_then))

    def test_each_word(self):
        self.assert_told([("add", 3), ("load", 1)], [7, -8], [7, -8], -8)
        self.assert_told([("add", 3), ("plus", 1)], [7, -8], [7, -8], -5)
        self.assert_told([("add", 3), ("store", 1)], [7, -8], [7, 3], 3)
        self.assert_told([("add", 3), ("add", -5)], [7, -8], [7, -8], -2)
        self.assert_told([("add", 3), ("twice",)], [7, -8], [7, -8], 6)
        self.assert_told([("add", 3), TAKE], [7, -8], [7, -8], 3)
        self.assert_told([TAKE, ("add", 3), FREE], [7, -8], [7, -8], 3)

    def test_all_words_in_one_row(self):
        row = [TAKE, ("load", 0), ("add", 1), ("twice",), ("plus", 1), ("store", 0), FREE, ("load", 1)]
        self.assert_told(row, [10, -5], [17, -5], -5)

    def test_the_number_is_nought_at_first(self):
        self.assert_told([("store", 0)], [7], [0], 0)
        self.assert_told([("twice",)], [7], [7], 0)
        self.assert_told([("plus", 0)], [7], [7], 7)

    def test_an_empty_row(self):
        for boxes in [[], [7], [7, -8, 9]]:
            self.assert_told([], boxes, boxes, 0)

    def test_a_row_of_sixty_steps(self):
        self.assert_told([("add", 1)] * 60, [], [], 60)
        self.assert_told([TAKE, FREE] * 30, [5], [5], 0)
        self.assert_told([("add", 1), ("store", 0)] * 30, [99], [30], 30)
        self.assert_told([("plus", 0), ("store", 0)] * 30, [3], [3 * 2 ** 29], 3 * 2 ** 29)

    def test_none_to_nine_boxes(self):
        for many in range(10):
            boxes = [n * n - 20 for n in range(many)]
            row = [("plus", n) for n in range(many)] + [("store", n) for n in range(many)]
            self.assert_told(row, boxes, [sum(boxes)] * many, sum(boxes))

    def test_each_box_is_counted_from_nought(self):
        for box in range(9):
            boxes = list(range(10, 19))
            self.assert_told([("load", box)], boxes, boxes, 10 + box)
            stored = list(boxes)
            stored[box] = 1
            self.assert_told([("add", 1), ("store", box)], boxes, stored, 1)

    def test_numbers_below_nought(self):
        self.assert_told([("load", 0), ("twice",), ("add", -1), ("store", 1)], [-4, -1], [-4, -9], -9)

    def test_numbers_of_sixty_figures(self):
        big = SIXTY_FIGURES
        self.assert_told([("load", 0), ("add", big), ("store", 1)], [big, 0], [big, 2 * big], 2 * big)
        self.assert_told([("load", 0), ("add", -big), ("plus", 0)], [-big], [-big], -3 * big)
        self.assert_told([("add", big)] + [("twice",)] * 59, [], [], big * 2 ** 59)

    def test_a_row_may_keep_the_guard(self):
        self.assert_told([TAKE, ("add", 2), ("store", 0)], [7], [2], 2)

    def test_the_guard_may_be_taken_again_behind_a_free(self):
        self.assert_told([TAKE, FREE, ("add", 2), TAKE, FREE], [], [], 2)

    def test_drawn_rows(self):
        draw = random.Random(1401)
        seen = []
        for _ in range(2000):
            many = draw.randrange(4)
            row, boxes = drawn_row(draw, 8, many), drawn_boxes(draw, many)
            wanted = plainly(row, [], boxes, [0] * len(row))
            if not isinstance(wanted, str):
                wanted = (wanted[0], wanted[1][0])
            with self.subTest(row=row, boxes=boxes):
                self.assertEqual(came_to((Again, NotHeld), lambda: alone(row, boxes)), wanted)
            seen.append(wanted if isinstance(wanted, str) else "told")
        for name in ["told", "Again", "NotHeld"]:
            self.assertGreater(seen.count(name), 100)


class RefusedTest(unittest.TestCase):
    def assert_refused(self, kind, row):
        with self.subTest(row=row):
            with self.assertRaises(kind) as caught:
                alone(row, [7])
            self.assertIs(type(caught.exception), kind)

    def test_again(self):
        self.assert_refused(Again, [TAKE, TAKE])
        self.assert_refused(Again, [("add", 1), TAKE, ("store", 0), TAKE, FREE])
        self.assert_refused(Again, [TAKE, FREE, TAKE, TAKE])
        self.assert_refused(Again, [TAKE] + [("add", 1)] * 58 + [TAKE])

    def test_not_held(self):
        self.assert_refused(NotHeld, [FREE])
        self.assert_refused(NotHeld, [("add", 1), FREE, TAKE])
        self.assert_refused(NotHeld, [TAKE, FREE, FREE])
        self.assert_refused(NotHeld, [("add", 1)] * 59 + [FREE])

    def test_the_one_that_the_row_comes_to_first(self):
        self.assert_refused(Again, [TAKE, TAKE, FREE, FREE, FREE])
        self.assert_refused(NotHeld, [FREE, TAKE, TAKE])


if __name__ == "__main__":
    unittest.main()
