"""Points 11, 12 and 13: guarded rows, alone and two of them by turns."""

import itertools
import random
import unittest

from guardrows.guards import guarded, under_guard
from guardrows.weaving import alone, walked, woven
from tests.helper import SEVEN, drawn_boxes, drawn_row, drawn_step, plain_orders

TAKE = ("take",)
FREE = ("free",)
ADD = ("add", 1)
TWICE = ("twice",)
OF_A_BOX = [("load", 0), ("plus", 0), ("store", 0)]
GUARD = (TAKE, FREE)


def guarded_plainly(row):
    """Whether a row is guarded: of its takes, frees and boxes the take is first, the free last."""
    five = [step[0] for step in row if step[0] in ("load", "plus", "store", "take", "free")]
    if not five:
        return True
    inner = five[1:-1]
    return five[0] == "take" and five[-1] == "free" and "take" not in inner and "free" not in inner


def without_guard(row):
    return [step for step in row if step not in GUARD]


def drawn_guarded(draw, boxes):
    """A guarded row that is drawn; one in four is without the guard."""
    around = [[draw.choice([("add", draw.randrange(-9, 10)), TWICE]) for _ in range(draw.randrange(3))]
              for _ in range(2)]
    if draw.randrange(4) == 0:
        return around[0] + around[1]
    between = [drawn_step(draw, boxes, False) for _ in range(draw.randrange(6))]
    return around[0] + [TAKE] + between + [FREE] + around[1]


def first_taker(ones, others, order):
    """The hand whose take comes first in an order."""
    left = [iter(ones), iter(others)]
    for hand in order:
        if next(left[hand]) == TAKE:
            return hand
    return None


class GuardedTest(unittest.TestCase):
    def assert_guarded(self, wanted, *rows):
        for row in rows:
            with self.subTest(row=row):
                self.assertIs(guarded(row), wanted)

    def test_none_of_the_five_words(self):
        self.assert_guarded(True, [], [ADD], [TWICE], [ADD, TWICE, ADD], [ADD] * 60)

    def test_one_take_and_one_free_behind_it(self):
        self.assert_guarded(True, [TAKE, FREE], [TAKE, ADD, FREE], [ADD, TAKE, FREE, TWICE])

    def test_boxes_without_the_guard(self):
        for step in OF_A_BOX:
            self.assert_guarded(False, [step], [ADD, step, TWICE])

    def test_boxes_ahead_between_and_behind(self):
        for step in OF_A_BOX:
            self.assert_guarded(True, [TAKE, step, FREE], [ADD, TAKE, ADD, step, TWICE, step, FREE, ADD])
            self.assert_guarded(False, [step, TAKE, FREE], [TAKE, FREE, step],
                                [step, TAKE, step, FREE], [TAKE, step, FREE, step],
                                [ADD, step, ADD, TAKE, FREE], [TAKE, FREE, ADD, step, ADD])

    def test_each_word_between(self):
        between = SEVEN[:5] + [("store", 8)]
        self.assert_guarded(True, [TAKE] + between + [FREE])
        self.assert_guarded(False, between, between + [FREE], [TAKE] + between)

    def test_add_and_twice_anywhere(self):
        plain = [TAKE, ("load", 0), ("store", 1), FREE]
        for step in [ADD, TWICE]:
            for at in range(len(plain) + 1):
                self.assert_guarded(True, plain[:at] + [step] + plain[at:])

    def test_the_free_ahead_of_the_take(self):
        self.assert_guarded(False, [FREE, TAKE], [FREE, ADD, TAKE], [ADD, FREE, TAKE, ADD])
        for step in OF_A_BOX:
            self.assert_guarded(False, [FREE, step, TAKE], [step, FREE, TAKE], [FREE, TAKE, step])

    def test_a_take_or_a_free_alone(self):
        self.assert_guarded(False, [TAKE], [FREE], [ADD, TAKE], [FREE, TWICE])
        for step in OF_A_BOX:
            self.assert_guarded(False, [TAKE, step], [step, FREE])

    def test_two_takes_or_two_frees(self):
        self.assert_guarded(False, [TAKE, TAKE], [FREE, FREE], [TAKE, TAKE, FREE], [TAKE, FREE, FREE],
                            [TAKE, FREE, TAKE], [FREE, TAKE, FREE], [TAKE, TAKE, FREE, FREE],
                            [TAKE, FREE, TAKE, FREE], [TAKE, ("load", 0), FREE, TAKE, FREE])

    def test_boxes_are_not_looked_at(self):
        self.assert_guarded(True, [TAKE, ("load", 99), FREE])
        self.assert_guarded(False, [("load", 99)])

    def test_sixty_steps(self):
        self.assert_guarded(True, [TAKE] + [("plus", 0)] * 58 + [FREE])
        self.assert_guarded(False, [("plus", 0), TAKE] + [("plus", 0)] * 57 + [FREE])
        self.assert_guarded(False, [TAKE] + [("plus", 0)] * 57 + [FREE, ("plus", 0)])

    def test_all_rows_of_at_most_four_steps(self):
        for many in range(5):
            for steps in itertools.product(SEVEN, repeat=many):
                row = list(steps)
                if guarded(row) is not guarded_plainly(row):
                    self.fail(row)

    def test_drawn_rows(self):
        draw = random.Random(1413)
        for _ in range(500):
            row = drawn_guarded(draw, 3)
            self.assert_guarded(True, row)
            at = draw.randrange(len(row) + 1)
            row.insert(at, draw.choice(SEVEN))
            self.assert_guarded(guarded_plainly(row), row)


class UnderGuardTest(unittest.TestCase):
    def assert_under(self, row, wanted):
        with self.subTest(row=row):
            self.assertEqual(under_guard(row), wanted)

    def test_rows_without_takes_and_frees(self):
        self.assert_under([], [TAKE, FREE])
        self.assert_under([ADD], [TAKE, ADD, FREE])
        self.assert_under([("load", 0), ADD, ("store", 0), ("plus", 1), TWICE],
                          [TAKE, ("load", 0), ADD, ("store", 0), ("plus", 1), TWICE, FREE])

    def test_rows_with_takes_and_frees(self):
        self.assert_under([TAKE], [TAKE, FREE])
        self.assert_under([FREE, TAKE], [TAKE, FREE])
        self.assert_under([TAKE, ("load", 0), FREE], [TAKE, ("load", 0), FREE])
        self.assert_under([ADD, TAKE, ("load", 3), FREE, TWICE, TAKE, FREE, FREE, ("add", 2)],
                          [TAKE, ADD, ("load", 3), TWICE, ("add", 2), FREE])

    def test_twice_under_the_guard_is_once(self):
        row = under_guard([ADD, FREE, ("store", 2)])
        self.assert_under(row, row)

    def test_such_a_row_is_guarded(self):
        draw = random.Random(1414)
        for _ in range(500):
            row = drawn_row(draw, 9, draw.randrange(4))
            with self.subTest(row=row):
                self.assertEqual(under_guard(row), [TAKE] + without_guard(row) + [FREE])
                self.assertIs(guarded(under_guard(row)), True)

    def test_alone_it_tells_what_the_row_without_takes_and_frees_tells(self):
        draw = random.Random(1415)
        for _ in range(500):
            many = draw.randrange(4)
            row, boxes = drawn_row(draw, 9, many), drawn_boxes(draw, many)
            with self.subTest(row=row, boxes=boxes):
                self.assertEqual(alone(under_guard(row), boxes), alone(without_guard(row), boxes))

    def test_long_rows(self):
        self.assertEqual(alone(under_guard([ADD] * 58), []), ([], 58))
        self.assertEqual(alone(under_guard([ADD] * 58 + [TAKE, FREE]), []), ([], 58))
        # The take and the free may make a row longer than one that can be done.
        row = under_guard([ADD] * 60)
        self.assertEqual(row, [TAKE] + [ADD] * 60 + [FREE])
        self.assertIs(guarded(row), True)


class GuardedPairTest(unittest.TestCase):
    def test_by_any_turns_they_tell_what_a_plain_order_tells(self):
        draw = random.Random(1412)
        both, differ = [0, 0], 0
        for _ in range(3000):
            many = draw.randrange(1, 4)
            ones, others = drawn_guarded(draw, many), drawn_guarded(draw, many)
            boxes = drawn_boxes(draw, many)
            turns = [draw.randrange(2) for _ in range(draw.randrange(24))]
            plain = [walked(ones, others, boxes, order) for order in plain_orders(ones, others)]
            with self.subTest(ones=ones, others=others, boxes=boxes, turns=turns):
                held, numbers, order = woven(ones, others, boxes, turns)
                self.assertIn((held, numbers), plain)
                if TAKE in ones and TAKE in others:
                    taker = first_taker(ones, others, order)
                    self.assertEqual((held, numbers), plain[taker])
                    both[taker] += 1
                    differ += plain[0] != plain[1]
        self.assertGreater(min(both), 300)
        self.assertGreater(differ, 300)

    def test_by_every_turns_of_a_small_pair(self):
        row = under_guard([("load", 0), ADD, ("store", 0)])
        other = [ADD] + under_guard([("plus", 0), ("store", 0)]) + [TWICE]
        plain = [walked(row, other, [5], order) for order in plain_orders(row, other)]
        self.assertEqual(plain, [([7], [6, 14]), ([7], [7, 12])])
        for turns in itertools.product([0, 1], repeat=9):
            held, numbers, order = woven(row, other, [5], list(turns))
            with self.subTest(turns=turns):
                self.assertEqual((held, numbers), plain[first_taker(row, other, order)])


if __name__ == "__main__":
    unittest.main()
