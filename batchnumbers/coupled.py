"""Machines by couples: pairs of rows that tell the batch numbers."""

from batchnumbers.basics import is_tuple_of, product_of
from batchnumbers.batches import batch_fault, moduli
from batchnumbers.changes import change_of_row, looped, split_looped
from batchnumbers.machines import is_row
from batchnumbers.rests import fits_lot


def couples_tell(machine, value):
    """Whether a value is a tuple of pairs of rows whose changes just the batch numbers suit."""
    counts = _other_counts(machine)
    if not isinstance(value, tuple) or not all([_is_couple(machine, pair) for pair in value]):
        return False
    return _left_over(machine, value, counts) == []


def telling_couples(machine):
    """Some such tuple of which no pair can be left out."""
    counts = _other_counts(machine)
    couples = []
    left = counts
    while left:
        # The first two rows of a fault are a couple that the count does not suit.
        couple = batch_fault(machine, left[0])[:2]
        couples.append(couple)
        left = _left_over(machine, [couple], left)
    for couple in list(couples):
        others = [kept for kept in couples if kept != couple]
        # Who cannot be left out now cannot be left out of fewer couples either.
        if _left_over(machine, others, counts) == []:
            couples = others
    return tuple(couples)


def _other_counts(machine):
    """The numbers below the product of the moduli that are no batch numbers.

    Whether an integer suits a couple of rows hangs only on what it leaves by this product.
    """
    lot = moduli(machine)
    return [count for count in range(product_of(lot)) if not fits_lot(lot, count)]


def _is_couple(machine, value):
    """Whether a value is a pair of rows."""
    return is_tuple_of(value, 2) and all([is_row(machine, row) for row in value])


def _left_over(machine, couples, counts):
    """Those of the counts that suit the changes of all the couples."""
    left = counts
    for couple in couples:
        one, other = [change_of_row(machine, row) for row in couple]
        left = [count for count in left if looped(one, other, count) == split_looped(one, other, count)]
    return left
