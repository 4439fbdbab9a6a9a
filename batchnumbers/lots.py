"""Lots of moduli together, and some few counts that tell a lot."""

from math import gcd

from batchnumbers.basics import number_leaving, product_of
from batchnumbers.rests import check_lot


def is_coarser(one, other):
    """Whether each modulus of the first lot divides one of the second."""
    check_lot(one, 0)
    check_lot(other, 1)
    return all([any([greater % modulus == 0 for greater in other]) for modulus in one])


def common_lot(one, other):
    """The lot of the greatest common divisors, from 3 on, of a modulus of the first and one of the second."""
    check_lot(one, 0)
    check_lot(other, 1)
    return common_moduli(one, other)


def common_moduli(one, other):
    """The common lot of what are surely lots."""
    shared = [gcd(modulus, beside) for modulus in one for beside in other]
    return tuple(sorted([divisor for divisor in shared if divisor > 2]))


def telling_counts(lot):
    """Some few counts, from 1 to one more than the product of the moduli, whose lot this is."""
    check_lot(lot, 0)
    whole = product_of(lot)
    # These two have the product as their lot; each further one parts it, so that no two moduli stay together.
    counts = [whole, whole + 1]
    bit = 1
    while bit < len(lot):
        ones = product_of([modulus for at, modulus in enumerate(lot) if at & bit])
        counts.append(number_leaving(ones, whole // ones))
        bit *= 2
    return tuple(sorted(counts))
