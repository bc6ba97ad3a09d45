"""The loom: two hands at their rows, the boxes that they share, and the guard."""

from guardrows.errors import Again, NotHeld, NoTurn, Waits
from guardrows.steps import BOX_WORDS, GUARD_WORDS, check_row


class Loom:
    """Two rows that are done step by step, each step by the hand that is named."""

    def __init__(self, ones, others, boxes):
        check_row(ones, boxes)
        check_row(others, boxes)
        # Copies, so that what the caller does later to its lists changes nothing here.
        self._rows = [list(ones), list(others)]
        self.boxes = list(boxes)
        self.numbers = [0, 0]
        self.places = [0, 0]
        self.holder = None

    def over(self, hand):
        """True where the hand has done all steps of its row."""
        return self.places[hand] == len(self._rows[hand])

    def waits(self, hand):
        """True where the hand's next step is a take and the other hand holds the guard."""
        if self.over(hand) or self.holder != 1 - hand:
            return False
        return self._next_step(hand)[0] == "take"

    def go(self, hand):
        """Do the hand's next step, or refuse it and change nothing."""
        if self.over(hand):
            raise NoTurn(f"the row of hand {hand} is over")
        if self.waits(hand):
            raise Waits(f"hand {hand} waits for the guard")
        step = self._next_step(hand)
        word = step[0]
        if word in GUARD_WORDS:
            self._do_guard(hand, word)
        elif word in BOX_WORDS:
            self._do_box(hand, word, step[1])
        elif word == "add":
            self.numbers[hand] += step[1]
        else:
            self.numbers[hand] *= 2
        self.places[hand] += 1

    def twin(self):
        """Another loom that stands as this one does and goes its own way."""
        made = Loom(self._rows[0], self._rows[1], self.boxes)
        made.numbers = list(self.numbers)
        made.places = list(self.places)
        made.holder = self.holder
        return made

    def _next_step(self, hand):
        return self._rows[hand][self.places[hand]]

    def _do_guard(self, hand, word):
        if word == "take":
            if self.holder == hand:
                raise Again(f"hand {hand} holds the guard already")
            self.holder = hand
        else:
            if self.holder != hand:
                raise NotHeld(f"hand {hand} does not hold the guard")
            self.holder = None

    def _do_box(self, hand, word, box):
        if word == "load":
            self.numbers[hand] = self.boxes[box]
        elif word == "plus":
            self.numbers[hand] += self.boxes[box]
        else:
            self.boxes[box] = self.numbers[hand]
