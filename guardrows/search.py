"""The search for an order of two rows that tells what neither plain order tells."""

from guardrows.errors import TooMany, Waits
from guardrows.steps import check_row
from guardrows.weaving import alone, walked

MOST_SEARCHED = 5


def strange(ones, others, boxes):
    """An order of all steps that tells what neither plain order tells, or None."""
    _check_rows(ones, others, boxes)
    plain = [_told(ones, others, boxes, order) for order in _plain_orders(len(ones), len(others))]
    for order in _all_orders(len(ones), len(others)):
        told = _told(ones, others, boxes, order)
        if told is not None and told not in plain:
            return order
    return None


def _check_rows(ones, others, boxes):
    # A row that will not do, the second one too, is told ahead of one too long to search.
    check_row(ones, boxes)
    check_row(others, boxes)
    if len(ones) > MOST_SEARCHED or len(others) > MOST_SEARCHED:
        raise TooMany(f"rows of at most {MOST_SEARCHED} steps can be searched")
    # Done for Again and NotHeld alone: rows that pass here come to neither in any order.
    alone(ones, boxes)
    alone(others, boxes)


def _told(ones, others, boxes, order):
    """What an order tells; None where it comes to a wait."""
    try:
        return walked(ones, others, boxes, order)
    except Waits:
        return None


def _plain_orders(first, second):
    """All steps of the first row and then all of the second one, and the other way round."""
    return [[0] * first + [1] * second, [1] * second + [0] * first]


def _all_orders(first, second):
    """Every order of so many steps of the first hand and so many of the second one."""
    if first == 0 or second == 0:
        return [[0] * first + [1] * second]
    begun = [[0] + rest for rest in _all_orders(first - 1, second)]
    return begun + [[1] + rest for rest in _all_orders(first, second - 1)]
