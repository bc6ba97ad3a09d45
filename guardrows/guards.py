"""Which hand is ahead in an order, and which rows are guarded."""

from guardrows.errors import NoTurn
from guardrows.steps import BOX_WORDS, GUARD_WORDS, apart


def ahead(ones, others, order):
    """Whether the first hand is ahead in the order, and whether the second one is."""
    steps = _steps_of(ones, others, order)
    return _is_ahead(0, steps), _is_ahead(1, steps)


def guarded(row):
    """True where the row touches boxes only between its one take and its one free."""
    words = [step[0] for step in row]
    if "take" not in words and "free" not in words:
        return not any(word in BOX_WORDS for word in words)
    if words.count("take") != 1 or words.count("free") != 1:
        return False
    taken = words.index("take")
    freed = words.index("free")
    if freed < taken:
        return False
    unguarded = words[:taken] + words[freed:]
    return not any(word in BOX_WORDS for word in unguarded)


def under_guard(row):
    """The row's steps without takes and frees, between one take and one free."""
    kept = [step for step in row if step[0] not in GUARD_WORDS]
    return [("take",)] + kept + [("free",)]


def _steps_of(ones, others, order):
    """The steps that the order asks for, each beside its hand."""
    rows = (ones, others)
    places = [0, 0]
    steps = []
    for hand in order:
        if places[hand] == len(rows[hand]):
            raise NoTurn(f"the row of hand {hand} is over")
        steps.append((hand, rows[hand][places[hand]]))
        places[hand] += 1
    return steps


def _is_ahead(hand, steps):
    """True where a step of the hand stands ahead of one of the other that is not apart from it."""
    before = []
    for mover, step in steps:
        if mover == hand:
            before.append(step)
        elif not all(apart(one, step) for one in before):
            return True
    return False
