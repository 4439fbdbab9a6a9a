"""What follows from some batch numbers, whatever the machine is."""

from batchnumbers.basics import check_integers, is_integer
from batchnumbers.lots import common_moduli


def lot_of(counts):
    """The lot whose moduli's divisors, from 3 on, are the integers open to the counts; None if all are 0 or 1."""
    check_integers(counts, 0)
    lot = None
    for count in counts:
        if not _is_plain(count):
            alone = _lot_of_one(count)
            lot = alone if lot is None else common_moduli(lot, alone)
    return lot


def _is_plain(count):
    """Whether the count is a batch number of each machine."""
    return count == 0 or count == 1


def _lot_of_one(count):
    """The lot of a single count."""
    # To leave 0 or 1 by an integer means that it divides the count or the one before.
    return tuple(sorted([side for side in (abs(count), abs(count - 1)) if side > 2]))


def follows(counts, count):
    """Whether an integer is a batch number of each machine of which all the counts are."""
    return doubt(counts, count) is None


def doubt(counts, count):
    """None, or an integer open to the counts by which this one leaves neither 0 nor 1."""
    lot = lot_of(counts)
    if _is_plain(count):
        return None
    if lot is None:
        return least_parting([count])
    for modulus in lot:
        if count % modulus > 1:
            return modulus
    return None


def least_parting(counts):
    """The least integer from 3 on by which all the counts, none of them 0 or 1, leave something else."""
    # At the latest the greatest size of a count and 2 more is one.
    parting = 3
    while any([count % parting < 2 for count in counts]):
        parting += 1
    return parting


def is_doubt(counts, count, value):
    """Whether a value is an integer open to the counts by which this one leaves neither 0 nor 1."""
    check_integers(counts, 0)
    if not is_integer(value) or value < 3:
        return False
    return all([known % value < 2 for known in counts]) and count % value > 1
