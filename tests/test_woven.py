"""Point 6: rows that are done by turns."""

import random
import unittest

from guardrows.errors import Again, NotHeld, Stuck
from guardrows.weaving import walked, woven
from tests.helper import came_to, drawn_boxes, drawn_row, mended, plainly

TAKE = ("take",)
FREE = ("free",)
ADD = ("add", 1)
KINDS = (Again, NotHeld, Stuck)
GROW = [("load", 0), ("add", 1), ("store", 0)]
GUARDED = [TAKE] + GROW + [FREE]


def woven_plainly(ones, others, boxes, turns):
    """What turns come to, worked out without the program: the order, or a refusal's name."""
    # So many turns of one hand let it go as far as it can, and a round does a step at least.
    one_round = [0] * len(ones) + [1] * len(others)
    order = []
    for hand in list(turns) + one_round * (len(one_round) + 1):
        told = plainly(ones, others, boxes, order + [hand])
        if told in ("NoTurn", "Waits"):
            continue
        if isinstance(told, str):
            return told
        order.append(hand)
    return order if len(order) == len(one_round) else "Stuck"


class ToldTest(unittest.TestCase):
    def assert_order(self, ones, others, turns, order):
        """The turns come to the order, and what is told is what the order tells."""
        boxes = [5, -6]
        with self.subTest(ones=ones, others=others, turns=turns):
            told = woven(ones, others, boxes, turns)
            self.assertEqual(told[2], order)
            self.assertEqual(told[:2], plainly(ones, others, boxes, order))
            self.assertEqual(told[:2], walked(ones, others, boxes, told[2]))

    def test_boxes_numbers_and_order(self):
        self.assertEqual(woven(GROW, GROW, [5], [0, 1]), ([6], [6, 6], [0, 1, 0, 0, 1, 1]))
        self.assertEqual(woven(GROW, [("add", 2)], [5], [1]), ([6], [6, 2], [1, 0, 0, 0]))

    def test_no_turns(self):
        self.assert_order(GROW, GROW, [], [0, 0, 0, 1, 1, 1])
        self.assert_order([], GROW, [], [1, 1, 1])
        self.assert_order(GROW, [], [], [0, 0, 0])
        self.assert_order([], [], [], [])
        self.assert_order(GUARDED, GUARDED, [], [0] * 5 + [1] * 5)

    def test_turns_of_one_hand_alone(self):
        self.assert_order(GROW, GROW, [1], [1, 0, 0, 0, 1, 1])
        self.assert_order(GROW, GROW, [1, 1, 1], [1, 1, 1, 0, 0, 0])
        self.assert_order(GROW, GROW, [0, 0], [0, 0, 0, 1, 1, 1])

    def test_a_turn_of_a_hand_whose_row_is_over_is_passed_over(self):
        self.assert_order([ADD], GROW, [0, 0, 1, 0, 1], [0, 1, 1, 1])
        self.assert_order([], GROW, [0, 1, 0], [1, 1, 1])
        self.assert_order(GROW, [], [1, 1], [0, 0, 0])

    def test_a_turn_of_a_hand_that_must_wait_is_passed_over(self):
        self.assert_order([TAKE, ADD, FREE], [TAKE, FREE], [0, 1, 1, 0, 1, 0, 1], [0, 0, 0, 1, 1])
        self.assert_order([TAKE, FREE], [TAKE, ADD, FREE], [1, 0, 1, 0], [1, 1, 1, 0, 0])

    def test_more_turns_than_steps(self):
        self.assert_order([ADD], [ADD], [1, 0, 1, 0, 0, 1], [1, 0])
        self.assert_order(GROW, GROW, [0, 1] * 50, [0, 1] * 3)
        self.assert_order([], [], [0, 1, 1], [])

    def test_behind_the_last_turn_each_goes_on_as_far_as_it_can(self):
        # The first hand waits behind its add, till the second one has gone all its way.
        self.assert_order([ADD, TAKE, FREE, ADD], [TAKE, ADD, FREE, ADD], [1],
                          [1, 0, 1, 1, 1, 0, 0, 0])
        # The second hand is not left at its free, though the first one could go on there.
        self.assert_order([TAKE, FREE], [TAKE, FREE, ADD, ADD], [1], [1, 1, 1, 1, 0, 0])

    def test_the_first_hand_goes_on_again_behind_the_second_one(self):
        ones = [TAKE, ADD, FREE, ADD]
        others = [TAKE, FREE, ADD, TAKE, FREE]
        self.assert_order(ones, others, [1], [1, 1, 1, 1, 1, 0, 0, 0, 0])
        self.assert_order([ADD, TAKE, FREE], [TAKE, ADD, FREE], [1, 0, 0], [1, 0, 1, 1, 0, 0])
        self.assert_order([TAKE, ADD, FREE], [ADD, TAKE, FREE], [0, 1, 1], [0, 1, 0, 0, 1, 1])

    def test_the_last_one_may_keep_the_guard(self):
        self.assert_order([TAKE, FREE], [TAKE], [], [0, 0, 1])
        self.assert_order([TAKE], [TAKE, FREE], [1, 1], [1, 1, 0])

    def test_sixty_steps_each(self):
        row = [("add", 1)] * 60
        self.assert_order(row, row, [1] * 59, [1] * 59 + [0] * 60 + [1])
        pairs = [TAKE, FREE] * 30
        # Of three turns of each hand one is passed over, a take that must wait.
        self.assert_order(pairs, pairs, [1, 0] * 90, [1, 1, 0, 0] * 30)

    def test_drawn_rows_and_turns(self):
        draw = random.Random(1406)
        seen = []
        for _ in range(3000):
            many = draw.randrange(3)
            ones, others = drawn_row(draw, 6, many), drawn_row(draw, 6, many)
            if draw.randrange(4):
                ones, others = mended(ones), mended(others)
            boxes = drawn_boxes(draw, many)
            turns = [draw.randrange(2) for _ in range(draw.randrange(16))]
            wanted = woven_plainly(ones, others, boxes, turns)
            if not isinstance(wanted, str):
                wanted = (*plainly(ones, others, boxes, wanted), wanted)
            with self.subTest(ones=ones, others=others, boxes=boxes, turns=turns):
                told = came_to(KINDS, lambda: woven(ones, others, boxes, turns))
                self.assertEqual(told, wanted)
                if not isinstance(told, str):
                    self.assertEqual(walked(ones, others, boxes, told[2]), told[:2])
            seen.append(wanted if isinstance(wanted, str) else "told")
        for name in ["told", "Again", "NotHeld", "Stuck"]:
            self.assertGreater(seen.count(name), 50)


class RefusedTest(unittest.TestCase):
    def assert_refused(self, kind, ones, others, turns):
        with self.subTest(ones=ones, others=others, turns=turns):
            with self.assertRaises(kind) as caught:
                woven(ones, others, [7], turns)
            self.assertIs(type(caught.exception), kind)

    def test_stuck_where_a_row_is_over_and_keeps_the_guard(self):
        self.assert_refused(Stuck, [TAKE], [TAKE], [])
        self.assert_refused(Stuck, [TAKE], [TAKE], [1])
        self.assert_refused(Stuck, [TAKE, FREE], [TAKE], [1])
        self.assert_refused(Stuck, [TAKE, ADD], [ADD, TAKE, FREE], [])
        self.assert_refused(Stuck, [ADD, TAKE, FREE], [TAKE, ADD], [0, 1, 0, 0, 1])

    def test_stuck_whatever_turns_come_then(self):
        self.assert_refused(Stuck, [TAKE], [TAKE], [0, 1, 0, 1, 1, 0])
        self.assert_refused(Stuck, [TAKE, FREE], [TAKE], [1, 0, 1, 0] * 20)

    def test_not_stuck_by_the_other_turns(self):
        self.assertEqual(woven([TAKE, FREE], [TAKE], [], [0])[2], [0, 0, 1])

    def test_again_and_not_held_on_the_way(self):
        self.assert_refused(Again, [TAKE, TAKE], [], [])
        self.assert_refused(Again, [ADD], [TAKE, ADD, TAKE], [1, 0])
        self.assert_refused(Again, [TAKE, TAKE], [TAKE], [0])
        self.assert_refused(NotHeld, [FREE], [], [])
        self.assert_refused(NotHeld, [TAKE, FREE], [FREE], [0, 1])
        self.assert_refused(NotHeld, [ADD], [TAKE, FREE, FREE], [1, 1, 0])

    def test_the_first_refusal_that_is_come_to(self):
        self.assert_refused(Again, [TAKE, TAKE], [FREE], [0, 0, 1])
        self.assert_refused(NotHeld, [TAKE, TAKE], [FREE], [0, 1, 0])
        self.assert_refused(Again, [TAKE, TAKE], [FREE], [0])
        self.assert_refused(NotHeld, [TAKE, TAKE], [FREE], [1])
        # A hand that waits does not come to what stands behind its take.
        self.assert_refused(Stuck, [TAKE, TAKE], [TAKE], [1])


if __name__ == "__main__":
    unittest.main()
