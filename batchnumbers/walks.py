"""Walks along the shelves of a shelving, and the jump faults of counts."""

from math import gcd

from batchnumbers.basics import is_below, is_tuple_of
from batchnumbers.shelves import checked_shelving


def walk_sum(shelving, shelf, jump, count):
    """What the weights of so many shelves, each so many shelves behind the one before, leave by the places."""
    places, weights = checked_shelving(shelving, 0)
    return _sum_from(weights, shelf, jump, count) % places


def _sum_from(weights, shelf, jump, count):
    """The sum of the weights on the walk, below 0 minus that of the walk to this shelf."""
    shelves = len(weights)
    # Counts may have thirty digits, but the walk comes round.
    around = shelves // gcd(jump, shelves)
    rounds, left = divmod(count, around)
    cycle = [weights[(shelf + step * jump) % shelves] for step in range(around)]
    return rounds * sum(cycle) + sum(cycle[:left])


def jump_fault(shelving, count):
    """None, or some shelf and jump whose walk sum is not what the count times the weight of the shelf leaves."""
    places, weights = checked_shelving(shelving, 0)
    for jump in range(len(weights)):
        sums = _sums_from_all(weights, jump, count)
        for shelf, weight in enumerate(weights):
            if (sums[shelf] - count * weight) % places > 0:
                return shelf, jump
    return None


def _sums_from_all(weights, jump, count):
    """The sums of the walks from each shelf with this jump and count."""
    shelves = len(weights)
    apart = gcd(jump, shelves)
    sums = [0] * shelves
    for first in range(apart):
        shelf = first
        so_far = _sum_from(weights, first, jump, count)
        for _ in range(shelves // apart):
            sums[shelf] = so_far
            # The walk from the next shelf leaves out this one and has one more at its end.
            so_far += weights[(shelf + count * jump) % shelves] - weights[shelf]
            shelf = (shelf + jump) % shelves
    return sums


def is_jump_fault(shelving, count, value):
    """Whether a value is a jump fault of the count."""
    places, weights = checked_shelving(shelving, 0)
    if not is_tuple_of(value, 2) or not all([is_below(entry, len(weights)) for entry in value]):
        return False
    shelf, jump = value
    return (_sum_from(weights, shelf, jump, count) - count * weights[shelf]) % places > 0
