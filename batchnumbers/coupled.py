"""Machines by couples: pairs of rows that tell the batch numbers."""

from math import gcd, lcm

from batchnumbers.basics import is_tuple_of, product_of
from batchnumbers.batches import moduli_of
from batchnumbers.changes import composed
from batchnumbers.machines import is_row
from batchnumbers.rests import fits_lot
from batchnumbers.tables import table_of


def couples_tell(machine, value):
    """Whether a value is a tuple of pairs of rows whose changes just the batch numbers suit."""
    table = table_of(machine)
    if not isinstance(value, tuple) or not all([_is_couple(machine, pair) for pair in value]):
        return False
    whole, left = _other_counts(table)
    for couple in value:
        # There may be very many couples: look only at those that may leave less.
        if left:
            left = _kept(left, _suiting(table, whole, couple))
    return left == []


def telling_couples(machine):
    """Some such tuple of which no pair can be left out."""
    table = table_of(machine)
    whole, counts = _other_counts(table)
    couples = []
    left = counts
    while left:
        number, index = table.fault(left[0])
        # The two rows of a fault are a couple that the count does not suit.
        couple = table.rows[number], (index,)
        told = _suiting(table, whole, couple)
        couples.append((couple, told))
        left = _kept(left, told)
    return tuple([couple for couple, _ in _needed(couples, counts)])


def _needed(couples, counts):
    """Those pairs of a couple and what is told of it that are left if as many as can be are left out in turn."""
    needed = couples
    for pair in couples:
        others = [kept for kept in needed if kept != pair]
        left = counts
        for _, told in others:
            left = _kept(left, told)
        # Who cannot be left out now cannot be left out of fewer couples either.
        if left == []:
            needed = others
    return needed


def _other_counts(table):
    """The product of the moduli, and the numbers below it that are no batch numbers.

    Whether an integer suits a couple of rows hangs only on what it leaves by this product.
    """
    lot = moduli_of(table)
    whole = product_of(lot)
    return whole, [count for count in range(whole) if not fits_lot(lot, count)]


def _is_couple(machine, value):
    """Whether a value is a pair of rows."""
    return is_tuple_of(value, 2) and all([is_row(machine, row) for row in value])


def _suiting(table, whole, couple):
    """Whether each of the first numbers suits the changes of the couple, up to where it all comes again."""
    one = table.walk(0, couple[0])
    other = table.walk(0, couple[1])
    both = table.walk(one, couple[1])
    # What is told comes again both with the product of the moduli and with the orders of the changes.
    length = gcd(whole, lcm(table.order(one), table.order(other), table.order(both)))
    steps = [table.first_powers(number, length) for number in (one, other, both)]
    return [composed(first, second) == together for first, second, together in zip(*steps)]


def _kept(counts, told):
    """Those of the counts that suit a couple of which this is told."""
    return [count for count in counts if told[count % len(told)]]
