"""What several tests share."""

from guardrows.loom import Loom

SIXTY_FIGURES = 10 ** 60 - 1

# One step of each of the seven words; those of a box are of box 0.
SEVEN = [
    ("load", 0),
    ("plus", 0),
    ("store", 0),
    ("add", 5),
    ("twice",),
    ("take",),
    ("free",),
]


def standing(loom):
    """All that is to be read of a loom, copied, so that it can be compared later."""
    return (
        list(loom.boxes),
        list(loom.numbers),
        list(loom.places),
        loom.holder,
        [loom.over(0), loom.over(1)],
        [loom.waits(0), loom.waits(1)],
    )


def gone(ones, others, boxes, order):
    """A loom after the hands of an order have each done their next step."""
    loom = Loom(ones, others, boxes)
    for hand in order:
        loom.go(hand)
    return loom


def plainly(ones, others, boxes, order):
    """What an order comes to, worked out without the program.

    The boxes and the numbers, or the name of the first refusal.
    """
    rows, held, numbers, places, holder = (ones, others), list(boxes), [0, 0], [0, 0], None
    for hand in order:
        if places[hand] >= len(rows[hand]):
            return "NoTurn"
        word, *more = rows[hand][places[hand]]
        places[hand] += 1
        if word == "take":
            if holder is not None:
                return "Again" if holder == hand else "Waits"
            holder = hand
        elif word == "free":
            if holder != hand:
                return "NotHeld"
            holder = None
        elif word == "store":
            held[more[0]] = numbers[hand]
        elif word == "load":
            numbers[hand] = held[more[0]]
        elif word == "twice":
            numbers[hand] += numbers[hand]
        else:
            numbers[hand] += held[more[0]] if word == "plus" else more[0]
    return held, numbers


def came_to(kinds, call):
    """What a call of the program tells, or the name of the error where it is one of the kinds."""
    try:
        return call()
    except kinds as caught:
        return type(caught).__name__


def plain_orders(ones, others):
    """All of the first row and then all of the second one, and the other way round."""
    first, second = [0] * len(ones), [1] * len(others)
    return [first + second, second + first]


def drawn_step(draw, boxes, guard):
    """A step that is drawn, of one of so many boxes; a take or a free only with the guard."""
    words = ["add", "twice"]
    if boxes:
        words += ["load", "plus", "store", "store"]
    if guard:
        words += ["take", "free"]
    word = draw.choice(words)
    if word == "add":
        return (word, draw.randrange(-9, 10))
    if word in ("load", "plus", "store"):
        return (word, draw.randrange(boxes))
    return (word,)


def drawn_row(draw, most, boxes, guard=True):
    """A row that is drawn; it may take the guard twice or free it unheld."""
    return [drawn_step(draw, boxes, guard) for _ in range(draw.randrange(most + 1))]


def mended(row):
    """A row without the takes and frees that would be refused when it is done."""
    kept, holds = [], False
    for step in row:
        if step[0] in ("take", "free"):
            if holds == (step[0] == "take"):
                continue
            holds = not holds
        kept.append(step)
    return kept


def drawn_boxes(draw, many):
    return [draw.randrange(-20, 21) for _ in range(many)]


def drawn_order(draw, ones, others):
    """An order of all steps of both rows; a hand may have to wait in it."""
    order = [0] * len(ones) + [1] * len(others)
    draw.shuffle(order)
    return order
