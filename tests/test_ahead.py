"""Points 9 and 10: exchanged neighbours, and which hand is ahead in an order."""

import random
import unittest

from guardrows.errors import NoTurn
from guardrows.guards import ahead
from guardrows.steps import apart
from guardrows.weaving import walked
from tests.helper import drawn_boxes, drawn_order, drawn_row, mended, plain_orders, plainly

TAKE = ("take",)
FREE = ("free",)
ADD = ("add", 1)
LOAD = ("load", 0)
PLUS = ("plus", 0)
STORE = ("store", 0)


def together(one, other):
    """Whether two steps are not apart, worked out without the program."""
    words = {one[0], other[0]}
    if words <= {"take", "free"}:
        return True
    return "store" in words and words <= {"load", "plus", "store"} and one[1] == other[1]


def steps_of(ones, others, order):
    """The steps of an order, each beside its hand."""
    left = [iter(ones), iter(others)]
    return [(hand, next(left[hand])) for hand in order]


def ahead_plainly(ones, others, order):
    """Each hand's answer by a look at all pairs of steps of the order."""
    steps = steps_of(ones, others, order)
    found = [False, False]
    for at in range(len(steps)):
        for later in range(at + 1, len(steps)):
            (hand, one), (other_hand, other) = steps[at], steps[later]
            if hand != other_hand and together(one, other):
                found[hand] = True
    return tuple(found)


class ExchangeTest(unittest.TestCase):
    def test_neighbours_that_are_apart(self):
        draw = random.Random(1409)
        many_exchanged, with_guard = 0, 0
        for _ in range(3000):
            many = draw.randrange(3)
            ones, others = mended(drawn_row(draw, 5, many)), mended(drawn_row(draw, 5, many))
            boxes = drawn_boxes(draw, many)
            order = drawn_order(draw, ones, others)[:draw.randrange(11)]
            if isinstance(plainly(ones, others, boxes, order), str):
                continue
            told = walked(ones, others, boxes, order)
            steps = steps_of(ones, others, order)
            for at in range(len(order) - 1):
                (hand, one), (other_hand, other) = steps[at:at + 2]
                if hand == other_hand or not apart(one, other):
                    continue
                exchanged = order[:at] + [other_hand, hand] + order[at + 2:]
                with self.subTest(ones=ones, others=others, boxes=boxes, order=order, at=at):
                    self.assertEqual(walked(ones, others, boxes, exchanged), told)
                many_exchanged += 1
                with_guard += one in (TAKE, FREE) or other in (TAKE, FREE)
        self.assertGreater(many_exchanged, 1000)
        self.assertGreater(with_guard, 200)

    def test_the_ones_that_are_not_apart_matter(self):
        rows = [("add", 1), STORE], [("add", 2), STORE]
        self.assertFalse(apart(STORE, STORE))
        self.assertNotEqual(walked(*rows, [7], [0, 1, 0, 1]), walked(*rows, [7], [0, 1, 1, 0]))


class AheadTest(unittest.TestCase):
    def assert_ahead(self, ones, others, order, first, second):
        """The answers for both hands, and with the two hands changed about."""
        with self.subTest(ones=ones, others=others, order=order):
            self.assertEqual(ahead(ones, others, order), (first, second))
            turned = [1 - hand for hand in order]
            self.assertEqual(ahead(others, ones, turned), (second, first))

    def test_one_hand_is_ahead(self):
        self.assert_ahead([STORE], [LOAD], [0, 1], True, False)
        self.assert_ahead([STORE], [LOAD], [1, 0], False, True)
        self.assert_ahead([PLUS], [STORE], [0, 1], True, False)
        self.assert_ahead([STORE], [STORE], [0, 1], True, False)
        self.assert_ahead([TAKE], [TAKE], [0, 1], True, False)
        self.assert_ahead([FREE], [TAKE], [1, 0], False, True)
        self.assert_ahead([FREE], [FREE], [0, 1], True, False)

    def test_no_hand_is_ahead_where_all_are_apart(self):
        self.assert_ahead([LOAD], [LOAD], [0, 1], False, False)
        self.assert_ahead([LOAD], [PLUS], [0, 1], False, False)
        self.assert_ahead([("store", 0)], [("store", 1), ("load", 2)], [1, 0, 1], False, False)
        self.assert_ahead([TAKE, ADD], [STORE, ADD], [0, 1, 0, 1], False, False)
        self.assert_ahead([ADD, ("twice",)], [STORE, TAKE], [1, 0, 1, 0], False, False)
        self.assert_ahead([("add", 0)], [STORE], [0, 1], False, False)

    def test_both_hands_are_ahead(self):
        self.assert_ahead([LOAD, STORE], [LOAD, STORE], [0, 1, 0, 1], True, True)
        self.assert_ahead([STORE, ("store", 1)], [("store", 1), STORE], [0, 1, 1, 0], True, True)

    def test_steps_of_one_hand_alone_do_not_count(self):
        self.assert_ahead([STORE, STORE, TAKE, FREE], [], [0, 0, 0, 0], False, False)
        self.assert_ahead([STORE, STORE], [ADD], [0, 1, 0], False, False)

    def test_not_only_right_ahead(self):
        self.assert_ahead([STORE, ADD, ADD], [ADD, ADD, LOAD], [0, 0, 1, 0, 1, 1], True, False)
        self.assert_ahead([LOAD, ADD], [ADD] * 50 + [STORE], [0] + [1] * 50 + [0, 1], True, False)

    def test_orders_that_end_ahead_of_the_rows(self):
        self.assert_ahead([STORE], [LOAD], [], False, False)
        self.assert_ahead([STORE], [LOAD], [0], False, False)
        self.assert_ahead([STORE, LOAD], [LOAD, STORE], [0, 1], True, False)
        self.assert_ahead([], [], [], False, False)

    def test_orders_that_could_not_be_done(self):
        self.assert_ahead([TAKE, FREE], [TAKE, FREE], [0, 1, 0, 1], True, True)
        self.assert_ahead([TAKE, TAKE], [ADD], [0, 0, 1], False, False)
        self.assert_ahead([FREE], [ADD], [1, 0], False, False)

    def test_boxes_are_not_looked_at(self):
        self.assert_ahead([("store", 99)], [("load", 99)], [0, 1], True, False)
        self.assert_ahead([("store", -1)], [("load", 8)], [0, 1], False, False)

    def test_sixty_steps_each(self):
        row = [LOAD] * 59 + [STORE]
        self.assert_ahead(row, row, [0, 1] * 60, True, True)
        self.assert_ahead(row, row, [0] * 60 + [1] * 60, True, False)
        self.assert_ahead([LOAD] * 60, [PLUS] * 60, [0, 1] * 60, False, False)

    def test_no_turn(self):
        for ones, others, order in [([], [], [0]), ([ADD], [], [0, 0]), ([ADD], [ADD], [1, 0, 0]),
                                    ([STORE], [STORE, STORE], [0, 1, 0]),
                                    ([TAKE, FREE], [TAKE], [0, 1, 1]),
                                    ([LOAD, STORE], [LOAD, STORE], [0, 1, 0, 1, 0, 1])]:
            for case in [(ones, others, order), (others, ones, [1 - hand for hand in order])]:
                with self.subTest(case=case):
                    with self.assertRaises(NoTurn) as caught:
                        ahead(*case)
                    self.assertIs(type(caught.exception), NoTurn)

    def test_all_pairs_of_drawn_rows_and_orders(self):
        draw = random.Random(1410)
        seen = []
        for _ in range(3000):
            most, many = draw.choice([2, 4, 7]), draw.randrange(4)
            ones, others = drawn_row(draw, most, many), drawn_row(draw, most, many)
            order = drawn_order(draw, ones, others)
            if draw.randrange(2):
                order = order[:draw.randrange(len(order) + 1)]
            wanted = ahead_plainly(ones, others, order)
            with self.subTest(ones=ones, others=others, order=order):
                self.assertEqual(ahead(ones, others, order), wanted)
            seen.append(wanted)
        for answers in [(False, False), (False, True), (True, False), (True, True)]:
            self.assertGreater(seen.count(answers), 200)

    def test_a_hand_that_is_not_ahead_could_come_behind_the_other(self):
        draw = random.Random(1411)
        seen = [0, 0]
        for _ in range(4000):
            many = draw.randrange(4)
            ones, others = mended(drawn_row(draw, 5, many)), mended(drawn_row(draw, 5, many))
            boxes = drawn_boxes(draw, many)
            order = drawn_order(draw, ones, others)
            if isinstance(plainly(ones, others, boxes, order), str):
                continue
            told = walked(ones, others, boxes, order)
            for hand, is_ahead in enumerate(ahead(ones, others, order)):
                if not is_ahead and order not in plain_orders(ones, others):
                    plain = plain_orders(ones, others)[1 - hand]
                    with self.subTest(ones=ones, others=others, order=order, hand=hand):
                        self.assertEqual(walked(ones, others, boxes, plain), told)
                    seen[hand] += 1
        self.assertGreater(min(seen), 300)


if __name__ == "__main__":
    unittest.main()
