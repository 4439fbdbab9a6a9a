"""Loops that are split in another order: turned numbers, and arrangements of more rows."""

from batchnumbers.basics import check_integer
from batchnumbers.batches import batch_fault, is_batch_number
from batchnumbers.changes import change_of_row, changes, first_unlike, in_turn, is_change, raised
from batchnumbers.errors import InvalidQuestion
from batchnumbers.machines import is_rows_with_state, rows_among


def is_turned_number(machine, count):
    """Whether the power of any x followed by y is that of y followed by that of x."""
    changes(machine)
    check_integer(count, 1)
    return is_batch_number(machine, count + 1)


def check_arrangement(value, at):
    """Refuses what is no tuple of the numbers below its length, an argument with this index."""
    # So the numbers stand as the states do in a change.
    if not isinstance(value, tuple) or not is_change(len(value), value):
        raise InvalidQuestion(at)


def _check_splitting(machine, arrangement, count):
    """Refuses a machine with too many changes, then what is no arrangement, then what is no count."""
    changes(machine)
    check_arrangement(arrangement, 1)
    check_integer(count, 2)


def splits_into(machine, arrangement, count):
    """Whether the count splits the loops of any changes into loops in the order of the arrangement."""
    _check_splitting(machine, arrangement, count)
    return _telling_rows(machine, arrangement, count) is None


def split_fault(machine, arrangement, count):
    """None, or some rows and a state from which the loop and the split loops lead to unlike states."""
    _check_splitting(machine, arrangement, count)
    rows = _telling_rows(machine, arrangement, count)
    if rows is None:
        return None
    together, apart = _both_ways(machine, arrangement, count, rows)
    return rows, first_unlike(together, apart)


def is_split_fault(machine, arrangement, count, value):
    """Whether a value is a split fault of the count."""
    _check_splitting(machine, arrangement, count)
    if not is_rows_with_state(machine, len(arrangement), value):
        return False
    rows, state = value
    together, apart = _both_ways(machine, arrangement, count, rows)
    return together[state] != apart[state]


def _both_ways(machine, arrangement, count, rows):
    """The changes of the loop of the rows and of the split loops."""
    steps = [change_of_row(machine, row) for row in rows]
    together = raised(in_turn(machine.states, steps), count)
    return together, in_turn(machine.states, [raised(steps[number], count) for number in arrangement])


def _telling_rows(machine, arrangement, count):
    """None, or rows of which the loop and the split loops have unlike changes."""
    # Two rows will do, all others being empty: two that stay in their order, or two that are turned round.
    for turned in (False, True):
        numbers = _neighbours(arrangement, turned)
        pair = None if numbers is None else _telling_pair(machine, count, turned)
        if pair is not None:
            return rows_among(len(arrangement), list(zip(numbers, pair)))
    return None


def _neighbours(arrangement, turned):
    """The first two neighbours that stand in their order or, if so asked, turned round, the lesser one ahead."""
    for at in range(1, len(arrangement)):
        one, other = arrangement[at - 1], arrangement[at]
        if (one > other) == turned:
            return min(one, other), max(one, other)
    return None


def _telling_pair(machine, count, turned):
    """None, or two rows that show that the count is no batch number or, if so asked, no turned number."""
    fault = batch_fault(machine, count + 1 if turned else count)
    if fault is None:
        return None
    # Done n + 1 times, u v is u, then v u done n times, then v: take off the ends on both sides of the fault.
    return (fault[1], fault[0]) if turned else fault[:2]
