"""Rows that are done: one alone, two by an order, two by turns."""

from guardrows.errors import Stuck
from guardrows.loom import Loom


def alone(row, boxes):
    """The boxes and the hand's number after one row is done alone."""
    loom = Loom(row, [], boxes)
    while not loom.over(0):
        loom.go(0)
    return loom.boxes, loom.numbers[0]


def walked(ones, others, boxes, order):
    """The boxes and both numbers after each hand of the order has done its next step."""
    loom = Loom(ones, others, boxes)
    for hand in order:
        loom.go(hand)
    return loom.boxes, loom.numbers


def woven(ones, others, boxes, turns):
    """The boxes, both numbers and the order after both rows are done by turns."""
    loom = Loom(ones, others, boxes)
    order = []
    for hand in turns:
        if _can_go(loom, hand):
            loom.go(hand)
            order.append(hand)
    _finish(loom, order)
    return loom.boxes, loom.numbers, order


def _can_go(loom, hand):
    return not loom.over(hand) and not loom.waits(hand)


def _finish(loom, order):
    """Do what is left of both rows, the first hand ahead, and put it behind the order."""
    hand = 0
    while not (loom.over(0) and loom.over(1)):
        if not _can_go(loom, 0) and not _can_go(loom, 1):
            raise Stuck("neither hand can go on, and a row is not over")
        while _can_go(loom, hand):
            loom.go(hand)
            order.append(hand)
        hand = 1 - hand
