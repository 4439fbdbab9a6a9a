"""Pieces: the parts of a machine that belong to its moduli, and the rest."""

from batchnumbers.basics import number_leaving, product_of, shared_part
from batchnumbers.batches import moduli
from batchnumbers.changes import changes, checked_known, order_of, raised


def pieces(machine):
    """The moduli, each with the changes whose order has no primes but those of the modulus."""
    group = changes(machine)
    return tuple([(modulus, _within_primes(group, modulus)) for modulus in moduli(machine)])


def rest_piece(machine):
    """The changes whose order has no primes of any modulus."""
    group = changes(machine)
    whole = product_of(moduli(machine))
    return tuple([change for change in group if shared_part(order_of(change), whole) == 1])


def by_pieces(machine, change):
    """The changes of all pieces, then that of the rest, which are the change, one after another."""
    checked_known(machine, changes(machine), change)
    least = order_of(change)
    shares = [shared_part(least, modulus) for modulus in moduli(machine)]
    shares.append(least // product_of(shares))
    # The counts leave 1 in sum by the order, so these powers, one after another, are the change.
    return tuple([raised(change, number_leaving(share, least // share)) for share in shares])


def _within_primes(group, modulus):
    """The changes of the group whose order has no primes but those of the modulus."""
    found = []
    for change in group:
        least = order_of(change)
        if shared_part(least, modulus) == least:
            found.append(change)
    return tuple(found)
