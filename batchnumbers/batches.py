"""Batch numbers: the counts that split every loop of a machine, and the moduli that tell them."""

from math import lcm

from batchnumbers.basics import is_below, is_tuple_of
from batchnumbers.changes import (change_of_row, changes, command_changes, common_order, commute_with_all, composed,
                                  first_unlike, looped, raised, rows_by_change, split_looped)
from batchnumbers.machines import is_row
from batchnumbers.rests import lot_with


def first_fault(group, makers, count):
    """A pair of a change of the group and the index of a maker whose loops the count does not split, None if none.

    The group consists of all changes that are made of the makers.
    """
    powers_of = {change: raised(change, count) for change in group}
    # If all loops that end with a maker are split, so are those that end with several makers.
    for index, maker in enumerate(makers):
        last = powers_of[maker]
        for change in group:
            if powers_of[composed(change, maker)] != composed(powers_of[change], last):
                return change, index
    return None


def is_batch_number(machine, count):
    """Whether loops with this count may be split, whatever rows they do."""
    return first_fault(changes(machine), command_changes(machine), count) is None


def batch_fault(machine, count):
    """None for a batch number, otherwise two rows and a state from which loop and split loops end unlike."""
    rows = rows_by_change(machine)
    makers = command_changes(machine)
    fault = first_fault(sorted(rows), makers, count)
    if fault is None:
        return None
    change, command = fault
    together = looped(change, makers[command], count)
    apart = split_looped(change, makers[command], count)
    return rows[change], (command,), first_unlike(together, apart)


def is_batch_fault(machine, count, value):
    """Whether a value is a batch fault of the count."""
    if not is_tuple_of(value, 3):
        return False
    one, other, state = value
    if not is_row(machine, one) or not is_row(machine, other) or not is_below(state, machine.states):
        return False
    first, second = change_of_row(machine, one), change_of_row(machine, other)
    return looped(first, second, count)[state] != split_looped(first, second, count)[state]


def rounds_of(group, makers):
    """The least count from 1 on for which all powers of the group change places with the makers."""
    inner = {change: True for change in group if commute_with_all(change, makers)}
    rounds = 1
    for change in group:
        if raised(change, rounds) not in inner:
            rounds = lcm(rounds, _rounds_into(change, inner))
    return rounds


def _rounds_into(change, inner):
    """The least count from 1 on for which the power of the change is one of these."""
    count = 1
    so_far = change
    while so_far not in inner:
        so_far = composed(so_far, change)
        count += 1
    return count


def number_of(group, makers):
    """The least count from 1 on that splits all loops of the group and whose powers lie in its middle."""
    rounds = rounds_of(group, makers)
    most = common_order(group)
    # The powers with the common order are idle, so at the latest this count is one.
    for count in range(rounds, most, rounds):
        if most % count == 0 and first_fault(group, makers, count) is None:
            return count
    return most


def moduli(machine):
    """The lot of moduli whose fitting integers are just the batch numbers of the machine."""
    group = changes(machine)
    makers = command_changes(machine)
    return lot_with(number_of(group, makers), lambda count: first_fault(group, makers, count) is None)
