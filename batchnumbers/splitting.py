"""Powers with one count, and changes as a power with a batch number and a power with the count before it."""

from batchnumbers.basics import check_integer
from batchnumbers.batches import is_batch_number
from batchnumbers.changes import all_commute, changes, checked_known, composed, few_makers, raised, undone
from batchnumbers.errors import Refused


def powers(machine, count):
    """The powers with this count of all changes of the machine."""
    group = changes(machine)
    check_integer(count, 1)
    return tuple(powers_of(group, count))


def go_along(machine, one, other):
    """Whether each power with the one count changes places with each power with the other."""
    group = changes(machine)
    check_integer(one, 1)
    check_integer(other, 2)
    # What changes places with some changes does so with all that are made of them.
    first = few_makers(machine.states, powers_of(group, one))
    second = few_makers(machine.states, powers_of(group, other))
    return all_commute(first, second)


def split_change(machine, count, change):
    """The power of the change with the count, and its back's power with the count before."""
    checked_known(machine, _splitting_group(machine, count), change)
    return raised(change, count), raised(undone(change), count - 1)


def splits(machine, count, change):
    """The pairs of a power with the count and one with the count before that are the change, one after another."""
    group = _splitting_group(machine, count)
    checked_known(machine, group, change)
    seconds = {power: True for power in powers_of(group, count - 1)}
    # The first ones differ, so the pairs ascend as they do.
    pairs = [(first, composed(undone(first), change)) for first in powers_of(group, count)]
    return tuple([pair for pair in pairs if pair[1] in seconds])


def shared(machine, count):
    """The changes that are powers both with the count and with the count before."""
    group = _splitting_group(machine, count)
    seconds = {power: True for power in powers_of(group, count - 1)}
    return tuple([power for power in powers_of(group, count) if power in seconds])


def powers_of(group, count):
    """The powers of the group with this count, ascending."""
    return sorted(set([raised(change, count) for change in group]))


def _splitting_group(machine, count):
    """The changes of the machine; the count, any value, must be a batch number."""
    group = changes(machine)
    check_integer(count, 1)
    if not is_batch_number(machine, count):
        raise Refused(1)
    return group
