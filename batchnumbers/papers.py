"""Papers: what shows by a few counts that a lot of moduli is that of a machine."""

from batchnumbers.basics import is_ascending, is_integer, is_tuple_of, number_leaving, prime_powers, product_of
from batchnumbers.batches import batch_fault, is_batch_fault, moduli
from batchnumbers.rests import fits_lot, is_lot


def court_paper(machine):
    """Some paper of the machine."""
    lot = moduli(machine)
    whole = product_of(lot)
    counts = {}
    for prime, _ in prime_powers(whole):
        counts[_unfitting_multiple(lot, whole // prime)] = True
    for modulus in lot:
        for one, other in _coprime_pairs(modulus):
            counts[number_leaving(one, other * (whole // modulus))] = True
    return lot, tuple([(count,) + batch_fault(machine, count) for count in sorted(counts)])


def is_court_paper(machine, value):
    """Whether a value is a paper of the machine."""
    lot = moduli(machine)
    if not is_tuple_of(value, 2) or not is_lot(value[0]) or not isinstance(value[1], tuple):
        return False
    # Only the machine's own lot has papers, and for it the counts of (a) and (b) are batch numbers.
    if value[0] != lot:
        return False
    for entry in value[1]:
        if not is_tuple_of(entry, 4) or not is_integer(entry[0]):
            return False
        if not is_batch_fault(machine, entry[0], entry[1:]):
            return False
    return is_ascending(value[1]) and _shows_all(lot, [entry[0] for entry in value[1]])


def _shows_all(lot, counts):
    """Whether these counts, none of them a batch number, leave no room for another lot."""
    whole = product_of(lot)
    for prime, _ in prime_powers(whole):
        if not any([count % (whole // prime) == 0 for count in counts]):
            return False
    for modulus in lot:
        others = tuple([other for other in lot if other != modulus])
        beside = [count for count in counts if fits_lot(others, count)]
        for one, other in _coprime_pairs(modulus):
            if not any([_parts_them(count, one, other) for count in beside]):
                return False
    return True


def _parts_them(count, one, other):
    """Whether the count leaves 0 by one of the two and 1 by the other."""
    return (count % one, count % other) in ((0, 1), (1, 0))


def _unfitting_multiple(lot, step):
    """The least multiple of the step from it on that does not fit the lot."""
    count = step
    while fits_lot(lot, count):
        count += step
    return count


def _coprime_pairs(modulus):
    """The pairs of factors greater than 1, with no common divisor but 1, whose product the modulus is."""
    powers = [power for _, power in prime_powers(modulus)]
    # The first power stands always on the left, so that no pair is told twice.
    pairs = [(powers[0], 1)]
    for power in powers[1:]:
        pairs = [(one * power, other) for one, other in pairs] + [(one, other * power) for one, other in pairs]
    return [(one, other) for one, other in pairs if other > 1]
