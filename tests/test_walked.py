"""Points 5 and 7: rows that are done by an order, the two plain ones among them."""

import random
import unittest

from guardrows.errors import Again, NotHeld, NoTurn, Waits
from guardrows.weaving import walked
from tests.helper import came_to, drawn_boxes, drawn_order, drawn_row, mended, plain_orders, plainly

TAKE = ("take",)
FREE = ("free",)
KINDS = (Again, NotHeld, NoTurn, Waits)
GROW = [("load", 0), ("add", 1), ("store", 0)]


class ToldTest(unittest.TestCase):
    def assert_told(self, ones, others, boxes, order, boxes_then, numbers_then):
        with self.subTest(ones=ones, others=others, order=order):
            self.assertEqual(walked(ones, others, boxes, order), (boxes_then, numbers_then))

    def test_orders_that_end_both_rows(self):
        self.assert_told(GROW, GROW, [5], [0, 0, 0, 1, 1, 1], [7], [6, 7])
        self.assert_told(GROW, GROW, [5], [1, 1, 1, 0, 0, 0], [7], [7, 6])
        self.assert_told(GROW, GROW, [5], [0, 1, 0, 1, 0, 1], [6], [6, 6])
        ones = [TAKE, ("load", 0), FREE, ("store", 1)]
        others = [("add", 4), TAKE, ("store", 0), FREE]
        self.assert_told(ones, others, [8, 9], [1, 0, 0, 0, 1, 1, 1, 0], [4, 8], [8, 4])

    def test_orders_that_end_ahead_of_the_rows(self):
        self.assert_told(GROW, GROW, [5], [0, 1, 0], [5], [6, 5])
        self.assert_told(GROW, GROW, [5], [0, 0, 0, 1], [6], [6, 6])
        self.assert_told(GROW, GROW, [5], [1, 1], [5], [0, 6])
        self.assert_told([TAKE, ("add", 1)], [TAKE], [], [0], [], [0, 0])

    def test_an_empty_order(self):
        self.assert_told(GROW, GROW, [5], [], [5], [0, 0])
        self.assert_told([], [], [5, -6], [], [5, -6], [0, 0])
        self.assert_told([TAKE, TAKE], [FREE], [], [], [], [0, 0])

    def test_a_refusal_that_the_order_does_not_come_to(self):
        self.assert_told([("add", 1), TAKE, TAKE], [("add", 2), FREE], [], [0, 0, 1], [], [1, 2])

    def test_sixty_steps_each(self):
        row = [("plus", 0), ("store", 0)] * 30
        self.assert_told(row, [("add", 1)] * 60, [1], [0, 1] * 60, [2 ** 29], [2 ** 29, 60])

    def test_drawn_rows_and_orders(self):
        draw = random.Random(1402)
        seen = []
        for _ in range(3000):
            many = draw.randrange(4)
            ones, others = drawn_row(draw, 5, many), drawn_row(draw, 5, many)
            if draw.randrange(2):
                ones, others = mended(ones), mended(others)
            boxes = drawn_boxes(draw, many)
            order = drawn_order(draw, ones, others)[:draw.randrange(14)]
            if draw.randrange(8) == 0:
                order.append(draw.randrange(2))
            wanted = plainly(ones, others, boxes, order)
            with self.subTest(ones=ones, others=others, boxes=boxes, order=order):
                self.assertEqual(came_to(KINDS, lambda: walked(ones, others, boxes, order)), wanted)
            seen.append(wanted if isinstance(wanted, str) else "told")
        for name in ["told", "Again", "NotHeld", "NoTurn", "Waits"]:
            self.assertGreater(seen.count(name), 50)


class RefusedTest(unittest.TestCase):
    def assert_refused(self, kind, ones, others, order):
        """The order is refused, and the one with the two hands changed about, too."""
        turned = [1 - hand for hand in order]
        for case in [(ones, others, order), (others, ones, turned)]:
            with self.subTest(case=case):
                with self.assertRaises(kind) as caught:
                    walked(case[0], case[1], [7], case[2])
                self.assertIs(type(caught.exception), kind)

    def test_no_turn(self):
        self.assert_refused(NoTurn, [], [], [0])
        self.assert_refused(NoTurn, [], GROW, [0])
        self.assert_refused(NoTurn, GROW, GROW, [0, 0, 0, 0])
        self.assert_refused(NoTurn, GROW, GROW, [0, 0, 0, 1, 1, 1, 1])
        self.assert_refused(NoTurn, [TAKE], [TAKE], [0, 0])

    def test_waits(self):
        self.assert_refused(Waits, [TAKE, FREE], [TAKE, FREE], [0, 1, 0, 1])
        self.assert_refused(Waits, [TAKE, ("add", 1), FREE], [TAKE], [0, 0, 1])
        self.assert_refused(Waits, [TAKE], [TAKE], [0, 1])

    def test_again_and_not_held(self):
        self.assert_refused(Again, [TAKE, TAKE], [], [0, 0])
        self.assert_refused(NotHeld, [FREE], [TAKE], [1, 0])
        self.assert_refused(NotHeld, [FREE], [TAKE], [0])

    def test_the_first_refusal_that_the_order_comes_to(self):
        rows = [TAKE, TAKE], [TAKE]
        self.assert_refused(Again, rows[0], rows[1], [0, 0, 1, 1])
        self.assert_refused(Waits, rows[0], rows[1], [0, 1, 0, 1])
        self.assert_refused(NoTurn, rows[0], rows[1], [1, 1, 0, 0])
        self.assert_refused(Waits, rows[0], rows[1], [1, 0, 1])
        self.assert_refused(NotHeld, [FREE], [TAKE], [1, 0, 1])
        self.assert_refused(NoTurn, [FREE], [TAKE], [1, 1, 0])


class PlainOrdersTest(unittest.TestCase):
    def assert_plain(self, ones, others, boxes, wanted):
        told = [came_to(KINDS, lambda: walked(ones, others, boxes, order))
                for order in plain_orders(ones, others)]
        with self.subTest(ones=ones, others=others):
            self.assertEqual(told, wanted)

    def test_both_plain_orders(self):
        self.assert_plain(GROW, [("load", 0), ("twice",), ("store", 0)], [5],
                          [([12], [6, 12]), ([11], [11, 10])])
        self.assert_plain([], GROW, [5], [([6], [0, 6]), ([6], [0, 6])])
        self.assert_plain([], [], [5], [([5], [0, 0]), ([5], [0, 0])])

    def test_a_plain_order_that_comes_to_a_wait(self):
        self.assert_plain([TAKE, ("add", 1)], [TAKE, FREE], [], ["Waits", ([], [1, 0])])
        self.assert_plain([TAKE, FREE], [("add", 2), TAKE], [], [([], [0, 2]), "Waits"])
        self.assert_plain([TAKE], [TAKE], [], ["Waits", "Waits"])

    def test_a_row_that_keeps_the_guard_stops_no_row_without_a_take(self):
        self.assert_plain([TAKE], GROW, [5], [([6], [0, 6]), ([6], [0, 6])])


if __name__ == "__main__":
    unittest.main()
