"""What is told of an unknown machine: counts that are batch numbers, and counts that are none."""

from math import gcd

from batchnumbers.basics import check_integers, product_of
from batchnumbers.errors import Refused
from batchnumbers.following import follows, least_parting, lot_of
from batchnumbers.rests import fits_lot, is_lot


def _check_tellings(yes, no):
    """Refuses what are no two sequences of integers."""
    check_integers(yes, 0)
    check_integers(no, 1)


def is_possible(yes, no):
    """Whether some machine has all of the first as batch numbers and none of the second."""
    _check_tellings(yes, no)
    return not any([follows(yes, count) for count in no])


def possible_lot(yes, no):
    """None, or some possible lot."""
    if not is_possible(yes, no):
        return None
    lot = lot_of(yes)
    # If nothing follows but 0 and 1, any modulus will do by which all of the others leave something else.
    return (least_parting(no),) if lot is None else lot


def is_possible_lot(yes, no, value):
    """Whether a value is a possible lot."""
    _check_tellings(yes, no)
    return is_lot(value) and _is_told(value, yes, no)


def _is_told(lot, yes, no):
    """Whether all of the first fit the lot and none of the second does."""
    return all([fits_lot(lot, count) for count in yes]) and not any([fits_lot(lot, count) for count in no])


def possible_lots(yes, no):
    """All possible lots."""
    _check_tellings(yes, no)
    lot = lot_of(yes)
    if lot is None:
        raise Refused(0)
    return tuple(sorted([coarser for coarser in _coarser_lots(lot) if _is_told(coarser, yes, no)]))


def _coarser_lots(lot):
    """The lots of which each modulus divides one of this lot."""
    lots = [()]
    for divisor in range(3, max(lot, default=0) + 1):
        if any([modulus % divisor == 0 for modulus in lot]):
            lots = lots + [coarser + (divisor,) for coarser in lots if gcd(divisor, product_of(coarser)) == 1]
    return lots


def sureness(yes, no, count):
    """True or False if the integer is a batch number of all, or of none, of the machines that are let, else None."""
    if not is_possible(yes, no):
        raise Refused(1)
    if follows(yes, count):
        return True
    if not is_possible(list(yes) + [count], no):
        return False
    return None
