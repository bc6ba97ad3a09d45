"""Points 4 and 5: over and waits at each moment, and the steps that are refused."""

import unittest

from guardrows.errors import Again, NoTurn, NotHeld, Waits
from guardrows.loom import Loom
from tests.helper import gone, standing

TAKE = ("take",)
FREE = ("free",)
ADD = ("add", 1)


def turned(ones, others, order, hand):
    """Rows, order and hand as they are, and with the two hands changed about."""
    return [(ones, others, order, hand), (others, ones, [1 - each for each in order], 1 - hand)]


class RefusedTest(unittest.TestCase):
    def assert_refused(self, kind, ones, others, order, hand):
        """After the order the hand's next step is refused, also a second time."""
        for case in turned(ones, others, order, hand):
            with self.subTest(case=case):
                loom = gone(case[0], case[1], [7, 8], case[2])
                before = standing(loom)
                for _ in range(2):
                    with self.assertRaises(kind) as caught:
                        loom.go(case[3])
                    self.assertIs(type(caught.exception), kind)
                    self.assertEqual(standing(loom), before)

    def test_no_turn(self):
        self.assert_refused(NoTurn, [], [], [], 0)
        self.assert_refused(NoTurn, [], [ADD], [], 0)
        self.assert_refused(NoTurn, [ADD], [ADD], [0], 0)
        self.assert_refused(NoTurn, [ADD, ("store", 0)], [ADD], [0, 1, 0], 0)

    def test_no_turn_while_either_hand_holds_the_guard(self):
        self.assert_refused(NoTurn, [TAKE], [TAKE], [0], 0)
        self.assert_refused(NoTurn, [ADD], [TAKE], [0, 1], 0)
        self.assert_refused(NoTurn, [TAKE, FREE], [TAKE], [0, 0, 1], 0)

    def test_waits(self):
        self.assert_refused(Waits, [TAKE], [TAKE, FREE], [1], 0)
        self.assert_refused(Waits, [ADD, TAKE, FREE], [ADD, TAKE, ADD, FREE], [0, 1, 1, 1], 0)

    def test_waits_for_a_hand_whose_row_is_over(self):
        self.assert_refused(Waits, [TAKE], [TAKE], [1], 0)
        self.assert_refused(Waits, [TAKE, FREE], [TAKE, ADD], [1, 1], 0)

    def test_again(self):
        self.assert_refused(Again, [TAKE, TAKE], [], [0], 0)
        self.assert_refused(Again, [TAKE, ADD, TAKE, FREE], [TAKE], [0, 0], 0)
        self.assert_refused(Again, [TAKE, FREE, TAKE, TAKE], [ADD], [0, 0, 1, 0], 0)

    def test_not_held_by_anybody(self):
        self.assert_refused(NotHeld, [FREE], [], [], 0)
        self.assert_refused(NotHeld, [ADD, FREE], [ADD], [1, 0], 0)
        self.assert_refused(NotHeld, [TAKE, FREE, FREE], [], [0, 0], 0)

    def test_not_held_by_the_hand_itself(self):
        self.assert_refused(NotHeld, [FREE], [TAKE, FREE], [1], 0)
        self.assert_refused(NotHeld, [FREE], [TAKE], [1], 0)
        self.assert_refused(NotHeld, [TAKE, FREE, FREE], [TAKE, FREE], [0, 0, 1], 0)

    def test_the_other_hand_goes_on_behind_a_refusal(self):
        loom = gone([TAKE, ADD, FREE], [TAKE, ("twice",), FREE], [], [0])
        with self.assertRaises(Waits):
            loom.go(1)
        for hand in [0, 0]:
            loom.go(hand)
        for hand in [1, 1, 1]:
            loom.go(hand)
        self.assertEqual((loom.numbers, loom.places, loom.holder), ([1, 0], [3, 3], None))

    def test_nothing_but_a_take_waits(self):
        for step in [("load", 0), ("plus", 0), ("store", 0), ADD, ("twice",)]:
            for ones, others, order, hand in turned([step], [TAKE], [1], 0):
                with self.subTest(step=step, hand=hand):
                    loom = gone(ones, others, [7], order)
                    self.assertIs(loom.waits(hand), False)
                    loom.go(hand)
                    self.assertEqual(loom.places, [1, 1])


class MomentsTest(unittest.TestCase):
    def assert_moments(self, ones, others, moments):
        """Hands (None ahead of the first step), and over and waits of both behind each."""
        loom = Loom(ones, others, [7])
        for at, (hand, over, waits, holder) in enumerate(moments):
            if hand is not None:
                loom.go(hand)
            with self.subTest(at=at):
                for each in [0, 1]:
                    self.assertIs(loom.over(each), over[each])
                    self.assertIs(loom.waits(each), waits[each])
                self.assertEqual(loom.holder, holder)

    def test_both_take_the_guard_the_first_hand_ahead(self):
        self.assert_moments([TAKE, ADD, FREE], [ADD, TAKE, FREE], [
            (None, (False, False), (False, False), None),
            (0, (False, False), (False, False), 0),
            (1, (False, False), (False, True), 0),
            (0, (False, False), (False, True), 0),
            (0, (True, False), (False, False), None),
            (1, (True, False), (False, False), 1),
            (1, (True, True), (False, False), None),
        ])

    def test_both_take_the_guard_the_second_hand_ahead(self):
        self.assert_moments([TAKE, FREE, ADD], [TAKE, ADD, FREE, TAKE], [
            (None, (False, False), (False, False), None),
            (1, (False, False), (True, False), 1),
            (1, (False, False), (True, False), 1),
            (1, (False, False), (False, False), None),
            (0, (False, False), (False, True), 0),
            (0, (False, False), (False, False), None),
            (1, (False, True), (False, False), 1),
            (0, (True, True), (False, False), 1),
        ])

    def test_a_hand_does_not_wait_for_itself(self):
        self.assert_moments([TAKE, TAKE], [ADD, FREE], [
            (None, (False, False), (False, False), None),
            (0, (False, False), (False, False), 0),
            (1, (False, False), (False, False), 0),
        ])

    def test_a_hand_whose_row_is_over_goes_on_holding(self):
        self.assert_moments([TAKE], [ADD, TAKE, FREE], [
            (None, (False, False), (False, False), None),
            (0, (True, False), (False, False), 0),
            (1, (True, False), (False, True), 0),
        ])
        self.assert_moments([ADD, TAKE], [TAKE], [
            (None, (False, False), (False, False), None),
            (1, (False, True), (False, False), 1),
            (0, (False, True), (True, False), 1),
        ])

    def test_empty_rows_are_over_and_wait_for_nothing(self):
        self.assert_moments([], [TAKE], [
            (None, (True, False), (False, False), None),
            (1, (True, True), (False, False), 1),
        ])

    def test_asking_changes_nothing(self):
        loom = gone([TAKE, FREE], [TAKE], [7], [0])
        before = standing(loom)
        self.assertEqual(standing(loom), before)
        self.assertEqual(loom.places, [1, 0])


if __name__ == "__main__":
    unittest.main()
