"""Moduli of shelvings, and shelvings that are made for a lot of moduli or against some counts."""

from math import gcd, lcm

from batchnumbers.basics import least_divisor, number_leaving, prime_powers
from batchnumbers.errors import Refused
from batchnumbers.following import doubt
from batchnumbers.rests import check_lot, lot_with
from batchnumbers.shelves import checked_shelving
from batchnumbers.walks import jump_fault


def shelf_moduli(shelving):
    """The lot of moduli of the shelving's machine, however many changes this has."""
    checked_shelving(shelving, 0)
    return lot_with(_number_of(shelving), lambda count: _is_good(shelving, count))


def _is_good(shelving, count):
    """Whether the count is a batch number of the shelving's machine."""
    return jump_fault(shelving, count) is None


def _number_of(shelving):
    """The product of the moduli: the least count from 1 on that is good, as is the next one."""
    places, weights = shelving
    # The product divides the places times the shelves, and its multiples are just such counts.
    return least_divisor(places * len(weights),
                         lambda count: _is_good(shelving, count) and _is_good(shelving, count + 1))


def folded(one, other):
    """Both shelvings together: each weight leaves that of the first and that of the second by their places."""
    first, weights = checked_shelving(one, 0)
    second, others = checked_shelving(other, 1)
    if gcd(first, second) > 1:
        raise Refused(0)
    places = first * second
    # The one number leaves 1 by the first and 0 by the second, the other one the other way round.
    low, high = number_leaving(first, second), number_leaving(second, first)
    together = []
    for shelf in range(lcm(len(weights), len(others))):
        sides = low * weights[shelf % len(weights)] + high * others[shelf % len(others)]
        together.append(sides % places)
    return places, tuple(together)


def shelving_for(lot):
    """Some shelving with this lot of moduli, whose places and shelves both divide the product."""
    check_lot(lot, 0)
    shelving = (1, (0,))
    for modulus in lot:
        shelving = folded(shelving, _shelving_with(modulus))
    return shelving


def _shelving_with(modulus):
    """A shelving with this single modulus."""
    powers = [power for _, power in prime_powers(modulus)]
    if len(powers) > 1:
        places = powers[0]
        return places, (1, places - 1) + (0,) * (modulus // places - 2)
    # Half a power of 2 will do: its walk sums hang on what half of count * (count - 1) leaves.
    size = modulus // 2 if modulus % 2 == 0 else modulus
    return size, tuple(range(size))


def against(counts, count):
    """None, or some shelving of whose machine all the counts are batch numbers, but the last one is none."""
    parting = doubt(counts, count)
    return None if parting is None else _shelving_with(parting)
