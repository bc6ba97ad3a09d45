"""Point 14: the search for a strange order."""

import itertools
import random
import unittest

from guardrows.errors import Again, NotHeld, TooMany
from guardrows.guards import under_guard
from guardrows.search import strange
from guardrows.weaving import walked
from tests.helper import came_to, drawn_boxes, drawn_row, mended, plain_orders, plainly

TAKE = ("take",)
FREE = ("free",)
ADD = ("add", 1)
LOAD = ("load", 0)
STORE = ("store", 0)
GROW = [LOAD, ADD, STORE]
KINDS = (Again, NotHeld)


def every_order(ones, others):
    """Every order of all steps of both rows."""
    many = len(ones) + len(others)
    return [[int(at not in firsts) for at in range(many)]
            for firsts in itertools.combinations(range(many), len(ones))]


def refused_alone(ones, others, boxes):
    """The name of what the first row, or else the second one, comes to alone; None for none."""
    for row in [ones, others]:
        told = plainly(row, [], boxes, [0] * len(row))
        if isinstance(told, str):
            return told
    return None


def strange_plainly(ones, others, boxes):
    """All strange orders, by a look at every order."""
    plain = [plainly(ones, others, boxes, order) for order in plain_orders(ones, others)]
    told = [(order, plainly(ones, others, boxes, order)) for order in every_order(ones, others)]
    return [order for order, one in told if not isinstance(one, str) and one not in plain]


class StrangeTest(unittest.TestCase):
    def check(self, ones, others, boxes):
        """What is told is what a look at every order tells; whether it was a strange order."""
        with self.subTest(ones=ones, others=others, boxes=boxes):
            told = came_to(KINDS, lambda: strange(ones, others, boxes))
            refused = refused_alone(ones, others, boxes)
            if refused is not None:
                self.assertEqual(told, refused)
                return refused
            wanted = strange_plainly(ones, others, boxes)
            if wanted:
                self.assertIn(told, wanted)
            else:
                self.assertIsNone(told)
            return bool(wanted)

    def assert_strange(self, ones, others, boxes, wanted=True):
        self.assertIs(self.check(ones, others, boxes), wanted)
        self.assertIs(self.check(others, ones, boxes), wanted)

    def test_an_addition_is_lost(self):
        self.assert_strange(GROW, GROW, [5])
        self.assertEqual(walked(GROW, GROW, [5], strange(GROW, GROW, [5])), ([6], [6, 6]))

    def test_none_under_the_guard(self):
        self.assertIsNone(strange(under_guard(GROW), under_guard(GROW), [5]))
        self.assert_strange(under_guard(GROW), [("add", 2), ("twice",)], [5], False)

    def test_one_row_under_the_guard_is_not_enough(self):
        self.assert_strange(under_guard(GROW), GROW, [5])

    def test_none_where_the_rows_share_nothing(self):
        self.assert_strange(GROW, [("load", 1), ADD, ("store", 1)], [5, 6], False)
        self.assert_strange([ADD] * 5, [("twice",)] * 5, [], False)

    def test_empty_rows(self):
        for boxes in [[], [5]]:
            self.assert_strange([], [], boxes, False)
        self.assert_strange([], GROW, [5], False)
        self.assert_strange([], [TAKE], [5], False)

    def test_it_depends_on_what_the_boxes_hold(self):
        row = [LOAD, ("twice",), STORE]
        self.assert_strange(row, row, [0], False)
        self.assert_strange(row, row, [1])

    def test_numbers_alone_are_strange(self):
        # Nothing is stored by the reader, and both plain orders tell the same boxes.
        self.assert_strange([ADD, STORE], [LOAD, ("plus", 0)], [5])
        self.assert_strange([ADD, STORE, ("twice",), STORE], [LOAD], [5])

    def test_boxes_of_one_plain_order_with_the_numbers_of_the_other(self):
        # The second hand stores what was, as if it came first, and then loads what is.
        ones, others = [ADD, STORE], [LOAD, ("store", 1), LOAD]
        plain = [walked(ones, others, [5, 7], order) for order in plain_orders(ones, others)]
        self.assertEqual(plain, [([1, 1], [1, 1]), ([1, 5], [1, 5])])
        told = walked(ones, others, [5, 7], strange(ones, others, [5, 7]))
        self.assertEqual(told, ([1, 5], [1, 1]))
        self.assert_strange(ones, others, [5, 7])

    def test_a_plain_order_that_comes_to_a_wait_tells_nothing(self):
        # The first hand keeps the guard. What it would tell ahead of the second one is strange.
        ones, others = [LOAD, TAKE], [ADD, STORE, TAKE, FREE]
        plain = [plainly(ones, others, [5], order) for order in plain_orders(ones, others)]
        self.assertEqual(plain, ["Waits", ([1], [1, 1])])
        order = strange(ones, others, [5])
        self.assertEqual(walked(ones, others, [5], order), ([1], [5, 1]))
        self.assert_strange(ones, others, [5])
        self.assert_strange([LOAD, TAKE, STORE], others, [5])

    def test_orders_that_come_to_a_wait_are_not_strange(self):
        self.assert_strange([TAKE], [TAKE], [], False)
        self.assert_strange([TAKE, ADD, STORE], [TAKE] + GROW, [5], False)
        self.assert_strange([TAKE, FREE], [TAKE], [], False)

    def test_five_steps_each_are_looked_through(self):
        self.assert_strange([ADD, ADD] + GROW, GROW + [ADD, ADD], [5])
        self.assert_strange(under_guard(GROW), under_guard([LOAD, ("twice",), STORE]), [5], False)
        self.assert_strange([ADD] * 5, [LOAD, ("plus", 0), STORE, ADD, STORE], [5], False)

    def test_the_only_order_that_is_strange(self):
        cases = [
            ([("load", 1), TAKE, LOAD, ("plus", 1), STORE],
             [("store", 1), ("twice",), ("store", 1), ("store", 1), LOAD],
             [0, 0, 0, 0, 1, 1, 1, 1, 1, 0]),
            ([("plus", 1), TAKE, ADD, ADD, ADD],
             [("store", 1), LOAD, TAKE, ("plus", 1), FREE],
             [0, 1, 1, 1, 1, 1, 0, 0, 0, 0]),
            ([("store", 1), TAKE, ADD, ("plus", 0), FREE],
             [("twice",), ("load", 1), TAKE, STORE, ("plus", 0)],
             [1, 1, 0, 0, 0, 0, 0, 1, 1, 1]),
            ([TAKE, ("store", 1), ("plus", 1), ADD, STORE],
             [("twice",), STORE, TAKE, FREE, STORE],
             [1, 1, 1, 1, 0, 0, 0, 0, 0, 1]),
        ]
        for ones, others, order in cases:
            with self.subTest(order=order):
                self.assertEqual(strange_plainly(ones, others, [5, 7]), [order])
                self.assertEqual(strange(ones, others, [5, 7]), order)
                turned = [1 - hand for hand in order]
                self.assertEqual(strange(others, ones, [5, 7]), turned)

    def test_numbers_of_sixty_figures_and_below_nought(self):
        self.assert_strange(GROW, GROW, [10 ** 60 - 1])
        self.assert_strange(GROW, GROW, [-(10 ** 60 - 1)])

    def test_all_pairs_of_rows_of_at_most_two_steps(self):
        steps = [LOAD, ("plus", 1), STORE, ("store", 1), ADD, TAKE, FREE]
        rows = [list(row) for many in range(3) for row in itertools.product(steps, repeat=many)]
        seen = [self.check(ones, others, [5, -2]) for ones in rows for others in rows]
        for answer in [True, False, "Again", "NotHeld"]:
            self.assertIn(answer, seen)

    def test_drawn_rows(self):
        draw = random.Random(1416)
        seen = []
        for _ in range(1200):
            many = draw.randrange(1, 3)
            guard = draw.randrange(2) == 1
            ones, others = drawn_row(draw, 5, many, guard), drawn_row(draw, 5, many, guard)
            if draw.randrange(2):
                ones, others = mended(ones), mended(others)
            seen.append(self.check(ones, others, drawn_boxes(draw, many)))
        for answer in [True, False, "Again", "NotHeld"]:
            self.assertGreater(seen.count(answer), 10)


class RefusedTest(unittest.TestCase):
    def assert_refused(self, kind, ones, others):
        with self.subTest(ones=ones, others=others):
            with self.assertRaises(kind) as caught:
                strange(ones, others, [5])
            self.assertIs(type(caught.exception), kind)

    def test_six_steps_are_too_many(self):
        for ones, others in [([ADD] * 6, []), ([ADD] * 6, [ADD] * 5), ([ADD] * 6, [ADD] * 6),
                             ([ADD] * 60, [ADD])]:
            self.assert_refused(TooMany, ones, others)
            self.assert_refused(TooMany, others, ones)

    def test_too_many_comes_ahead_of_again_and_not_held(self):
        for row in [[TAKE, TAKE], [FREE]]:
            self.assert_refused(TooMany, row, [ADD] * 6)
            self.assert_refused(TooMany, [ADD] * 6, row)
            self.assert_refused(TooMany, row + [ADD] * 5, [])

    def test_again_and_not_held_of_either_row(self):
        for kind, row in [(Again, [TAKE, TAKE]), (Again, [ADD, TAKE, ADD, TAKE, FREE]),
                          (NotHeld, [FREE]), (NotHeld, [TAKE, FREE, ADD, FREE])]:
            for other in [[], [ADD], [TAKE], [TAKE, FREE]]:
                self.assert_refused(kind, row, other)
                self.assert_refused(kind, other, row)

    def test_the_first_row_ahead_of_the_second(self):
        self.assert_refused(Again, [TAKE, TAKE], [FREE])
        self.assert_refused(NotHeld, [FREE], [TAKE, TAKE])
        self.assert_refused(Again, [ADD, ADD, ADD, TAKE, TAKE], [FREE])

    def test_the_one_that_a_row_comes_to_first(self):
        self.assert_refused(Again, [TAKE, TAKE, FREE, FREE], [])
        self.assert_refused(NotHeld, [], [FREE, TAKE, TAKE])


if __name__ == "__main__":
    unittest.main()
