"""What a step is, which steps are apart, and how a row is looked at."""

from guardrows.errors import BadBox, BadStep, TooMany

BOX_WORDS = ("load", "plus", "store")
GUARD_WORDS = ("take", "free")
BARE_WORDS = ("twice", "take", "free")
MOST_STEPS = 60


def is_whole(thing):
    """True for a whole number; True and False are none."""
    return isinstance(thing, int) and not isinstance(thing, bool)


def is_step(thing):
    """True for a step, False for anything else."""
    if not isinstance(thing, tuple) or len(thing) == 0:
        return False
    word = thing[0]
    if not isinstance(word, str):
        return False
    if word in BARE_WORDS:
        return len(thing) == 1
    if word in BOX_WORDS or word == "add":
        return len(thing) == 2 and is_whole(thing[1])
    return False


def apart(one, other):
    """True where doing the two steps in either order is the same for two hands."""
    if one[0] in GUARD_WORDS and other[0] in GUARD_WORDS:
        return False
    if one[0] in BOX_WORDS and other[0] in BOX_WORDS and one[1] == other[1]:
        return one[0] != "store" and other[0] != "store"
    return True


def check_row(row, boxes):
    """Refuse a row that is too long, or by its first step that will not do."""
    if len(row) > MOST_STEPS:
        raise TooMany(f"a row has at most {MOST_STEPS} steps")
    for at, step in enumerate(row):
        # The step itself is not shown: what is no step may be anything.
        if not is_step(step):
            raise BadStep(f"number {at} of the row is no step")
        # A box below nought is not there, though a list would be read from its end.
        if step[0] in BOX_WORDS and not 0 <= step[1] < len(boxes):
            raise BadBox(f"step {at} is of a box that is not there")
