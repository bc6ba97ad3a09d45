"""Points 2 and 3: what is a step and what is none."""

import unittest

from guardrows.steps import is_step
from tests.helper import SEVEN, SIXTY_FIGURES

WITH_A_NUMBER = ["load", "plus", "store", "add"]
BARE = ["twice", "take", "free"]


class Odd:
    """A thing that says that it is like everything else."""

    def __eq__(self, other):
        return True

    def __hash__(self):
        return hash("take")


class IsStepTest(unittest.TestCase):
    def assert_step(self, thing):
        with self.subTest(thing=thing):
            self.assertIs(is_step(thing), True)

    def assert_none(self, thing):
        with self.subTest(thing=thing):
            self.assertIs(is_step(thing), False)

    def test_each_word_with_what_belongs_to_it(self):
        for step in SEVEN:
            self.assert_step(step)

    def test_whole_numbers_of_any_size(self):
        for word in WITH_A_NUMBER:
            for n in [0, 1, 8, 9, -1, -7, SIXTY_FIGURES, -SIXTY_FIGURES]:
                self.assert_step((word, n))

    def test_true_and_false_are_no_whole_numbers(self):
        for word in WITH_A_NUMBER:
            self.assert_none((word, True))
            self.assert_none((word, False))

    def test_other_things_in_place_of_a_number(self):
        for word in WITH_A_NUMBER:
            for n in [None, "0", "", b"0", 1.0, 0.5, [0], (0,), {}, {0}, "x", int]:
                self.assert_none((word, n))

    def test_words_with_a_number_and_another_length(self):
        for word in WITH_A_NUMBER:
            self.assert_none((word,))
            self.assert_none((word, 0, 0))
            self.assert_none((word, 0, None))

    def test_bare_words_and_another_length(self):
        for word in BARE:
            self.assert_none((word, 0))
            self.assert_none((word, None))
            self.assert_none((word, word))

    def test_the_empty_tuple(self):
        self.assert_none(())

    def test_other_words(self):
        for word in ["", "Load", "LOAD", "load ", "stored", "loa", "sub", "half", "held"]:
            self.assert_none((word,))
            self.assert_none((word, 0))

    def test_a_word_that_is_no_string(self):
        for word in [0, 1, True, None, b"load", b"take", ("load",), ["take"], {}, set(), Odd()]:
            self.assert_none((word,))
            self.assert_none((word, 0))

    def test_the_word_stands_first(self):
        self.assert_none((0, "load"))
        self.assert_none((5, "add"))

    def test_a_list_in_place_of_a_tuple(self):
        for step in SEVEN:
            self.assert_none(list(step))

    def test_a_step_in_a_tuple_or_a_list(self):
        for step in SEVEN:
            self.assert_none((step,))
            self.assert_none([step])

    def test_things_that_are_no_tuple_at_all(self):
        for thing in [None, True, False, 0, 7, -1, 1.5, "", "take", "load", b"take", [], {},
                      {"take": 0}, {"take"}, frozenset(["take"]), range(2), Odd(), Odd,
                      tuple, len, iter(("take",))]:
            self.assert_none(thing)


if __name__ == "__main__":
    unittest.main()
