"""Lots of moduli, and the integers that leave 0 or 1 by each of them."""

from math import gcd

from batchnumbers.basics import is_integer, number_leaving, prime_powers, product_of
from batchnumbers.errors import InvalidQuestion


def is_lot(value):
    """Whether a value is an ascending tuple of integers from 3 on, no two with a common divisor but 1."""
    if not isinstance(value, tuple):
        return False
    whole = 1
    least = 3
    for modulus in value:
        if not is_integer(modulus) or modulus < least or gcd(modulus, whole) > 1:
            return False
        whole *= modulus
        least = modulus + 1
    return True


def check_lot(value, at):
    """Refuses what is no lot of moduli, an argument with this index."""
    if not is_lot(value):
        raise InvalidQuestion(at)


def fits_lot(lot, count):
    """Whether the count fits what is surely a lot."""
    return all([count % modulus < 2 for modulus in lot])


def fits(lot, count):
    """Whether the count leaves 0 or 1 when divided by each modulus."""
    check_lot(lot, 0)
    return fits_lot(lot, count)


def residues(lot):
    """The numbers below the product of the moduli that fit."""
    check_lot(lot, 0)
    whole = product_of(lot)
    rests = [0]
    for modulus in lot:
        # Whoever leaves 0 by this modulus so far leaves 1 with the step added, and the same by the others.
        step = number_leaving(modulus, whole // modulus)
        rests = rests + [(rest + step) % whole for rest in rests]
    return tuple(sorted(rests))


def next_fitting(lot, count):
    """The least integer from the count on that fits."""
    return next_leaving(residues(lot), product_of(lot), count)


def fitting_between(lot, low, high):
    """How many integers from `low` on, but less than `high`, fit."""
    return leaving_between(residues(lot), product_of(lot), low, high)


def next_leaving(rests, whole, count):
    """The least integer from the count on that leaves one of the ascending rests, 0 among them, by the whole."""
    start = count - count % whole
    for rest in rests:
        if start + rest >= count:
            return start + rest
    return start + whole


def leaving_between(rests, whole, low, high):
    """How many integers from `low` on, but less than `high`, leave one of the rests by the whole."""
    if low >= high:
        return 0
    return _leaving_below(rests, whole, high) - _leaving_below(rests, whole, low)


def _leaving_below(rests, whole, bound):
    """How many integers from 0 on, but less than the bound, do so; below 0 minus how many from the bound on."""
    rounds, left = divmod(bound, whole)
    return rounds * len(rests) + len([rest for rest in rests if rest < left])


def lot_with(whole, is_good):
    """The lot with this product that just those integers fit of which the function tells that they are good."""
    blocks = [power for _, power in prime_powers(whole)]
    masks = _good_masks(blocks, whole, is_good)
    lot = {}
    for at in range(len(blocks)):
        lot[_modulus_around(at, blocks, masks)] = True
    return tuple(sorted(lot))


def _chosen(blocks, mask):
    """The blocks whose bits are set in the mask."""
    return [block for at, block in enumerate(blocks) if mask >> at & 1]


def _good_masks(blocks, whole, is_good):
    """The masks of some blocks, not of all, such that what leaves 1 by these blocks and 0 by the others is good."""
    full = (1 << len(blocks)) - 1
    masks = []
    # With n, 1 - n fits, which leaves 0 and 1 the other way round: so half of the masks need not be looked at.
    for mask in range(1, (full + 1) // 2):
        ones = product_of(_chosen(blocks, mask))
        if is_good(number_leaving(ones, whole // ones)):
            masks.extend([mask, full - mask])
    return masks


def _modulus_around(at, blocks, masks):
    """The product of those blocks by which no good integer leaves something else than by this one."""
    beside = -1
    for mask in masks:
        if mask >> at & 1:
            beside &= mask
    return product_of(_chosen(blocks, beside))
