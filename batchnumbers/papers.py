"""Papers: what shows by a few counts that a lot of moduli is that of a machine."""

from batchnumbers.basics import is_ascending, is_integer, is_tuple_of, number_leaving, prime_powers, product_of
from batchnumbers.batches import fault_in, is_batch_fault, moduli_of
from batchnumbers.rests import fits_lot, is_lot
from batchnumbers.tables import table_of


def court_paper(machine):
    """Some paper of the machine."""
    table = table_of(machine)
    lot = moduli_of(table)
    whole = product_of(lot)
    counts = {}
    for prime, _ in prime_powers(whole):
        counts[_unfitting_multiple(lot, whole // prime)] = True
    for modulus in lot:
        for one, other in _coprime_pairs(modulus):
            counts[number_leaving(one, other * (whole // modulus))] = True
    return lot, tuple([(count,) + fault_in(table, count) for count in sorted(counts)])


def is_court_paper(machine, value):
    """Whether a value is a paper of the machine."""
    table = table_of(machine)
    if not is_tuple_of(value, 2) or not is_lot(value[0]) or not isinstance(value[1], tuple):
        return False
    lot, faults = value
    for fault in faults:
        if not is_tuple_of(fault, 4) or not is_integer(fault[0]):
            return False
        if not is_batch_fault(machine, fault[0], fault[1:]):
            return False
    # Only the machine's own lot has papers, and for it the counts of (a) and (b) are batch numbers.
    if not is_ascending(faults) or lot != moduli_of(table):
        return False
    return _shows_all(lot, [fault[0] for fault in faults])


def _shows_all(lot, counts):
    """Whether these counts, none of them a batch number, leave no room for another lot."""
    whole = product_of(lot)
    for prime, _ in prime_powers(whole):
        if not any([count % (whole // prime) == 0 for count in counts]):
            return False
    for modulus in lot:
        others = tuple([other for other in lot if other != modulus])
        beside = [count for count in counts if fits_lot(others, count)]
        for one, other in _coprime_pairs(modulus):
            if not any([_parts_them(count, one, other) for count in beside]):
                return False
    return True


def _parts_them(count, one, other):
    """Whether the count leaves 0 by one of the two and 1 by the other."""
    return (count % one, count % other) in ((0, 1), (1, 0))


def _unfitting_multiple(lot, step):
    """The least multiple of the step from it on that does not fit the lot."""
    count = step
    while fits_lot(lot, count):
        count += step
    return count


def _coprime_pairs(modulus):
    """The pairs of factors greater than 1, with no common divisor but 1, whose product the modulus is."""
    powers = [power for _, power in prime_powers(modulus)]
    # The first power stands always on the left, so that no pair is told twice.
    pairs = [(powers[0], 1)]
    for power in powers[1:]:
        pairs = [(one * power, other) for one, other in pairs] + [(one, other * power) for one, other in pairs]
    return [(one, other) for one, other in pairs if other > 1]
