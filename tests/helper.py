"""What several tests share."""

from guardrows.loom import Loom

# One step of each of the seven words; those of a box are of box 0.
SEVEN = [
    ("load", 0),
    ("plus", 0),
    ("store", 0),
    ("add", 5),
    ("twice",),
    ("take",),
    ("free",),
]


def standing(loom):
    """All that is to be read of a loom, copied, so that it can be compared later."""
    return (
        list(loom.boxes),
        list(loom.numbers),
        list(loom.places),
        loom.holder,
        [loom.over(0), loom.over(1)],
        [loom.waits(0), loom.waits(1)],
    )


def gone(ones, others, boxes, order):
    """A loom after the hands of an order have each done their next step."""
    loom = Loom(ones, others, boxes)
    for hand in order:
        loom.go(hand)
    return loom
