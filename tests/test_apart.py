"""Point 8: which steps are apart."""

import unittest

from guardrows.loom import Loom
from guardrows.steps import apart
from tests.helper import SEVEN, SIXTY_FIGURES

# The pairs of words, in either order, that are not apart where they are of the same box.
SAME_BOX = [("load", "store"), ("plus", "store"), ("store", "store")]
# Those that are never apart.
ALWAYS = [("take", "take"), ("take", "free"), ("free", "free")]


def listed(pairs, one, other):
    return (one[0], other[0]) in pairs or (other[0], one[0]) in pairs


def at_box(step, box):
    """The same step at another box, where it is of a box."""
    if step[0] in ("load", "plus", "store"):
        return (step[0], box)
    return step


class ApartTest(unittest.TestCase):
    def assert_apart(self, one, other, wanted):
        with self.subTest(one=one, other=other):
            self.assertIs(apart(one, other), wanted)
            self.assertIs(apart(other, one), wanted)

    def test_each_pair_of_words_at_the_same_box(self):
        for box in [0, 1, 8]:
            for one in SEVEN:
                for other in SEVEN:
                    together = listed(SAME_BOX, one, other) or listed(ALWAYS, one, other)
                    self.assert_apart(at_box(one, box), at_box(other, box), not together)

    def test_each_pair_of_words_at_different_boxes(self):
        for boxes in [(0, 1), (1, 0), (0, 8), (3, 2)]:
            for one in SEVEN:
                for other in SEVEN:
                    together = listed(ALWAYS, one, other)
                    self.assert_apart(at_box(one, boxes[0]), at_box(other, boxes[1]), not together)

    def test_a_store_is_of_the_same_box(self):
        self.assert_apart(("store", 2), ("store", 2), False)
        self.assert_apart(("store", 2), ("load", 2), False)
        self.assert_apart(("store", 2), ("plus", 2), False)
        self.assert_apart(("load", 2), ("plus", 2), True)

    def test_the_n_of_an_add_is_no_box(self):
        for word in ["load", "plus", "store"]:
            for n in [0, 3, 8]:
                self.assert_apart(("add", n), (word, n), True)

    def test_adds_and_twices_touch_nothing_that_is_shared(self):
        for n in [0, -1, SIXTY_FIGURES, -SIXTY_FIGURES]:
            for other in SEVEN:
                self.assert_apart(("add", n), other, True)
        for other in SEVEN:
            self.assert_apart(("twice",), other, True)

    def test_a_guard_word_beside_a_box(self):
        for guard in [("take",), ("free",)]:
            for other in SEVEN[:5]:
                self.assert_apart(guard, other, True)

    def test_apart_without_the_guard_is_just_what_either_order_tells(self):
        # A hand's number that is not nought, and boxes that differ, so that each step shows.
        before = [("add", 3), ("twice",)]
        plain = [("load", 0), ("plus", 0), ("store", 0), ("load", 1), ("plus", 1), ("store", 1),
                 ("add", 5), ("twice",)]
        for one in plain:
            for other in plain:
                told = []
                for order in [[0, 1], [1, 0]]:
                    loom = Loom(before + [one], [("add", 4), other], [10, 20])
                    for hand in [0, 0, 1] + order:
                        loom.go(hand)
                    told.append((loom.boxes, loom.numbers))
                self.assert_apart(one, other, told[0] == told[1])


if __name__ == "__main__":
    unittest.main()
