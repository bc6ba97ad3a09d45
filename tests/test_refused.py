"""Point 3: how each of the functions that are handed boxes refuses its rows."""

import unittest

from guardrows.errors import BadBox, BadStep, TooMany
from guardrows.search import strange
from guardrows.weaving import alone, walked, woven

TAKE = ("take",)
FREE = ("free",)
GOOD = ("add", 1)
NO_STEP = ("sub", 1)
NO_BOX = ("store", 2)
TWO_BOXES = [4, 5]


def by_no_order(ones, others, boxes):
    return walked(ones, others, boxes, [])


def by_no_turns(ones, others, boxes):
    return woven(ones, others, boxes, [])


# What is handed two rows and boxes.
OF_TWO = [by_no_order, by_no_turns, strange]


class RowTest(unittest.TestCase):
    def assert_kind(self, kind, call):
        with self.assertRaises(kind) as caught:
            call()
        self.assertIs(type(caught.exception), kind)

    def assert_refused(self, kind, row, boxes=TWO_BOXES):
        """The row is refused alone, as the first one, and as the second one."""
        with self.subTest(kind=kind, row=row, boxes=boxes):
            self.assert_kind(kind, lambda: alone(row, boxes))
            for other in [[], [GOOD], [TAKE]]:
                for call in OF_TWO:
                    self.assert_kind(kind, lambda: call(row, other, boxes))
                    self.assert_kind(kind, lambda: call(other, row, boxes))

    def test_a_row_of_more_than_sixty(self):
        self.assert_refused(TooMany, [GOOD] * 61)
        self.assert_refused(TooMany, [GOOD] * 150)

    def test_a_row_of_sixty_is_not_too_long(self):
        row = [GOOD] * 60
        self.assertEqual(alone(row, []), ([], 60))
        self.assertEqual(walked(row, row, [], [1] * 60), ([], [0, 60]))
        self.assertEqual(woven(row, row, [], [1])[1], [60, 60])

    def test_a_row_is_too_long_ahead_of_its_steps(self):
        self.assert_refused(TooMany, [NO_STEP] + [GOOD] * 60)
        self.assert_refused(TooMany, [NO_BOX] + [GOOD] * 60)
        self.assert_refused(TooMany, [TAKE] * 61)
        self.assert_refused(TooMany, [None] * 61)

    def test_what_is_no_step(self):
        for thing in [NO_STEP, (), ("load",), ("load", 0, 0), ("add",), ("add", 1, 1), ("twice", 0),
                      ("take", 0), ("free", 0), ("load", True), ("store", False), ("add", True),
                      ("plus", None), ("add", "1"), ("load", 0.0), ("load", "0"), ["add", 1],
                      ["take"], "take", None, 0, True, {}]:
            self.assert_refused(BadStep, [thing])
            self.assert_refused(BadStep, [GOOD, ("load", 1), thing, GOOD])

    def test_a_box_that_is_not_there(self):
        for word in ["load", "plus", "store"]:
            self.assert_refused(BadBox, [(word, 0)], [])
            self.assert_refused(BadBox, [(word, 9)], [0] * 9)
            for box in [2, 3, 10 ** 59, -1, -2, -(10 ** 59)]:
                self.assert_refused(BadBox, [GOOD, (word, 1), (word, box), GOOD])

    def test_step_by_step(self):
        self.assert_refused(BadStep, [GOOD, NO_STEP, NO_BOX])
        self.assert_refused(BadBox, [GOOD, NO_BOX, NO_STEP])

    def test_the_last_step_is_looked_at_too(self):
        self.assert_refused(BadStep, [GOOD] * 4 + [NO_STEP])
        self.assert_refused(BadBox, [GOOD] * 4 + [NO_BOX])
        self.assert_refused(BadStep, [GOOD] * 59 + [NO_STEP])
        self.assert_refused(BadBox, [GOOD] * 59 + [NO_BOX])

    def test_the_first_row_ahead_of_the_second(self):
        rows = [(TooMany, [GOOD] * 61), (BadStep, [GOOD, NO_STEP]), (BadBox, [GOOD, GOOD, NO_BOX])]
        for kind, ones in rows:
            for other_kind, others in rows:
                for call in OF_TWO:
                    with self.subTest(kind=kind, other_kind=other_kind, call=call):
                        self.assert_kind(kind, lambda: call(ones, others, TWO_BOXES))


class AheadOfAllElseTest(unittest.TestCase):
    """Each of the rows that will not do is told ahead of what an order or turns come to."""

    def assert_ahead(self, call, row):
        """The call is handed the row with each thing behind it that will not do."""
        for kind, behind in [(BadStep, [NO_STEP]), (BadBox, [NO_BOX]), (TooMany, [GOOD] * 61)]:
            with self.subTest(kind=kind, row=row):
                with self.assertRaises(kind) as caught:
                    call(row + behind)
                self.assertIs(type(caught.exception), kind)

    def test_ahead_of_no_turn(self):
        self.assert_ahead(lambda row: walked(row, [], TWO_BOXES, [1]), [GOOD])
        self.assert_ahead(lambda row: walked([], row, TWO_BOXES, [0]), [GOOD])
        self.assert_ahead(lambda row: walked([GOOD], row, TWO_BOXES, [0, 0]), [GOOD])

    def test_ahead_of_waits(self):
        self.assert_ahead(lambda row: walked(row, [TAKE], TWO_BOXES, [0, 1]), [TAKE])
        self.assert_ahead(lambda row: walked([TAKE], row, TWO_BOXES, [0, 1]), [TAKE])

    def test_ahead_of_again(self):
        again = [TAKE, TAKE]
        self.assert_ahead(lambda row: alone(row, TWO_BOXES), again)
        self.assert_ahead(lambda row: walked(row, [], TWO_BOXES, [0, 0]), again)
        self.assert_ahead(lambda row: walked(again, row, TWO_BOXES, [0, 0]), [])
        self.assert_ahead(lambda row: woven(row, [], TWO_BOXES, []), again)
        self.assert_ahead(lambda row: woven(again, row, TWO_BOXES, [0, 0]), [])
        self.assert_ahead(lambda row: strange(row, [], TWO_BOXES), again)
        self.assert_ahead(lambda row: strange(again, row, TWO_BOXES), [])

    def test_ahead_of_not_held(self):
        self.assert_ahead(lambda row: alone(row, TWO_BOXES), [FREE])
        self.assert_ahead(lambda row: walked(row, [], TWO_BOXES, [0]), [FREE])
        self.assert_ahead(lambda row: walked([FREE], row, TWO_BOXES, [0]), [])
        self.assert_ahead(lambda row: woven(row, [], TWO_BOXES, []), [FREE])
        self.assert_ahead(lambda row: woven([FREE], row, TWO_BOXES, [0]), [])
        self.assert_ahead(lambda row: strange(row, [], TWO_BOXES), [FREE])
        self.assert_ahead(lambda row: strange([FREE], row, TWO_BOXES), [])

    def test_ahead_of_stuck(self):
        self.assert_ahead(lambda row: woven([TAKE], row, TWO_BOXES, [0]), [TAKE])
        self.assert_ahead(lambda row: woven(row, [TAKE], TWO_BOXES, [1]), [TAKE])

    def test_ahead_of_the_search_s_own_too_many(self):
        for kind, thing in [(BadStep, NO_STEP), (BadBox, NO_BOX)]:
            for ones, others in [([GOOD] * 6 + [thing], []), ([GOOD] * 6, [thing]),
                                 ([thing], [GOOD] * 6), ([GOOD] * 6, [GOOD] * 6 + [thing])]:
                with self.subTest(ones=ones, others=others):
                    with self.assertRaises(kind):
                        strange(ones, others, TWO_BOXES)


if __name__ == "__main__":
    unittest.main()
