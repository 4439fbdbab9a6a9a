"""Batch numbers: the counts that split every loop of a machine, and the moduli that tell them."""

from math import lcm

from batchnumbers.basics import is_below, is_tuple_of, least_divisor
from batchnumbers.changes import (all_commute, change_of_row, commute_with_all, composed, first_unlike, led, looped,
                                  raised, split_looped)
from batchnumbers.machines import is_row
from batchnumbers.rests import lot_with
from batchnumbers.tables import table_of


def is_batch_number(machine, count):
    """Whether loops with this count may be split, whatever rows they do."""
    return table_of(machine).splits(count)


def batch_fault(machine, count):
    """None for a batch number, otherwise two rows and a state from which loop and split loops end unlike."""
    return fault_in(table_of(machine), count)


def fault_in(table, count):
    """The same, for a machine with this table."""
    fault = table.fault(count)
    if fault is None:
        return None
    number, command = fault
    first, second = table.changes[number], table.makers[command]
    state = first_unlike(looped(first, second, count), split_looped(first, second, count))
    return table.rows[number], (command,), state


def is_batch_fault(machine, count, value):
    """Whether a value is a batch fault of the count."""
    if not is_tuple_of(value, 3):
        return False
    one, other, state = value
    if not is_row(machine, one) or not is_row(machine, other) or not is_below(state, machine.states):
        return False
    first, second = change_of_row(machine, one), change_of_row(machine, other)
    together = led(composed(first, second), state, count)
    return together != led(second, led(first, state, count), count)


def rounds_of(group, makers):
    """The least count from 1 on for which all powers of the group change places with the makers."""
    inner = {change: True for change in group if commute_with_all(change, makers)}
    rounds = 1
    for change in group:
        if raised(change, rounds) not in inner:
            rounds = lcm(rounds, _rounds_into(change, inner))
    return rounds


def _rounds_into(change, inner):
    """The least count from 1 on for which the power of the change is one of these."""
    count = 1
    so_far = change
    while so_far not in inner:
        so_far = composed(so_far, change)
        count += 1
    return count


def number_of(table):
    """The least count from 1 on that splits all loops of a table, as the next one does."""
    if all_commute(table.makers, table.makers):
        return 1
    # Such counts are the multiples of the least one, and the common order is one of them.
    return least_divisor(table.common_order(), lambda count: table.splits(count) and table.splits(count + 1))


def moduli_of(table):
    """The lot of moduli whose fitting integers are just the counts that split all loops of a table."""
    return lot_with(number_of(table), lambda count: table.splits(count))


def moduli(machine):
    """The lot of moduli whose fitting integers are just the batch numbers of the machine."""
    return moduli_of(table_of(machine))
