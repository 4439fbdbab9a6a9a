"""Couples of changes, and the counts that split the loops of just these two."""

from batchnumbers.basics import least_divisor
from batchnumbers.changes import common_order, composed, followed, idle_change, loop, split_loop
from batchnumbers.rests import leaving_between, next_leaving


def suits(one, other, count):
    """Whether the loop and the split loop of the two changes are the same."""
    return loop(one, other, count) == split_loop(one, other, count)


def couple_round(one, other):
    """The least integer from 1 on that suits, as does the next one."""
    most = common_order([followed(one, other), one, other])
    # Such integers are the multiples of the least one, and the common order is one of them.
    return least_divisor(most, lambda count: suits(one, other, count) and suits(one, other, count + 1))


def couple_rests(one, other):
    """The numbers below the round that suit."""
    both = followed(one, other)
    rests = []
    # There may be thousands of numbers, so the powers go on step by step.
    together = first = second = idle_change(len(both))
    for count in range(couple_round(one, other)):
        if together == composed(first, second):
            rests.append(count)
        together, first, second = composed(together, both), composed(first, one), composed(second, other)
    return tuple(rests)


def next_suiting(one, other, count):
    """The least integer from the count on that suits."""
    return next_leaving(couple_rests(one, other), couple_round(one, other), count)


def suiting_between(one, other, low, high):
    """How many integers from `low` on, but less than `high`, suit."""
    return leaving_between(couple_rests(one, other), couple_round(one, other), low, high)
