"""The interface: lists of its own, and twins that go their own way."""

import unittest

from guardrows.errors import NoTurn, Waits
from guardrows.loom import Loom
from tests.helper import gone, standing

ONES = [("take",), ("load", 0), ("add", 1), ("store", 0), ("free",)]
OTHERS = [("plus", 1), ("take",), ("twice",), ("store", 1), ("free",)]
BOXES = [10, 20]
ORDER = [1, 0, 0, 0, 0, 0, 1, 1, 1, 1]


class HandedInTest(unittest.TestCase):
    def test_the_lists_that_were_handed_in_are_not_changed(self):
        ones, others, boxes = list(ONES), list(OTHERS), list(BOXES)
        loom = gone(ones, others, boxes, ORDER)
        self.assertEqual(loom.boxes, [11, 40])
        self.assertEqual((ones, others, boxes), (ONES, OTHERS, BOXES))

    def test_changing_them_later_changes_nothing(self):
        ones, others, boxes = list(ONES), list(OTHERS), list(BOXES)
        loom = Loom(ones, others, boxes)
        before = standing(loom)
        for changed in [ones, others, boxes]:
            changed[0] = ("add", 1000)
            changed.append(("twice",))
        self.assertEqual(standing(loom), before)
        ones.clear()
        others.clear()
        boxes.clear()
        self.assertEqual(standing(loom), before)
        for hand in ORDER:
            loom.go(hand)
        self.assertEqual(standing(loom), standing(gone(ONES, OTHERS, BOXES, ORDER)))
        self.assertEqual((loom.over(0), loom.over(1)), (True, True))

    def test_one_list_as_both_rows(self):
        row = [("add", 1), ("store", 0)]
        loom = gone(row, row, [0], [0, 0, 1])
        self.assertEqual((loom.numbers, loom.places), ([1, 1], [2, 1]))
        self.assertEqual(row, [("add", 1), ("store", 0)])

    def test_two_looms_of_the_same_lists(self):
        one, other = Loom(ONES, OTHERS, BOXES), Loom(ONES, OTHERS, BOXES)
        before = standing(other)
        for hand in ORDER:
            one.go(hand)
        self.assertEqual(standing(other), before)


class TwinTest(unittest.TestCase):
    def test_a_twin_is_another_loom_that_stands_the_same(self):
        for many in range(len(ORDER) + 1):
            with self.subTest(many=many):
                loom = gone(ONES, OTHERS, BOXES, ORDER[:many])
                before = standing(loom)
                twin = loom.twin()
                self.assertIsInstance(twin, Loom)
                self.assertIsNot(twin, loom)
                self.assertEqual(standing(twin), before)
                self.assertEqual(standing(loom), before)

    def assert_the_other_stays(self, goes, stays):
        """At each place of the order one of loom and twin goes on, and the other one stays."""
        end = standing(gone(ONES, OTHERS, BOXES, ORDER))
        for many in range(len(ORDER)):
            with self.subTest(many=many):
                loom = gone(ONES, OTHERS, BOXES, ORDER[:many])
                before = standing(loom)
                pair = [loom, loom.twin()]
                for hand in ORDER[many:]:
                    pair[goes].go(hand)
                self.assertEqual(standing(pair[goes]), end)
                self.assertEqual(standing(pair[stays]), before)

    def test_a_twin_goes_its_own_way(self):
        self.assert_the_other_stays(goes=1, stays=0)

    def test_a_loom_goes_on_without_its_twin(self):
        self.assert_the_other_stays(goes=0, stays=1)

    def test_a_twin_takes_other_turns(self):
        row = [("load", 0), ("add", 1), ("store", 0)]
        loom = gone(row, row, [5], [0])
        twin = loom.twin()
        for hand in [0, 0, 1, 1, 1]:
            loom.go(hand)
        for hand in [1, 0, 0, 1, 1]:
            twin.go(hand)
        self.assertEqual((loom.boxes, twin.boxes), ([7], [6]))

    def test_a_twin_of_a_twin(self):
        loom = gone(ONES, OTHERS, BOXES, ORDER[:3])
        twin = loom.twin()
        twin.go(0)
        third = twin.twin()
        between = standing(twin)
        third.go(0)
        self.assertEqual([each.places[0] for each in (loom, twin, third)], [2, 3, 4])
        self.assertEqual(standing(twin), between)

    def test_a_twin_refuses_what_the_loom_refuses(self):
        loom = gone([("take",)], [("take",)], [], [0])
        twin = loom.twin()
        before = standing(loom)
        with self.assertRaises(NoTurn):
            twin.go(0)
        with self.assertRaises(Waits):
            twin.go(1)
        self.assertEqual(standing(twin), before)
        self.assertEqual(standing(loom), before)

    def test_a_twin_does_not_need_the_lists_that_were_handed_in(self):
        ones, others, boxes = list(ONES), list(OTHERS), list(BOXES)
        loom = Loom(ones, others, boxes)
        for handed in [ones, others, boxes]:
            handed.clear()
        twin = loom.twin()
        for hand in ORDER:
            twin.go(hand)
        self.assertEqual(twin.boxes, [11, 40])


if __name__ == "__main__":
    unittest.main()
