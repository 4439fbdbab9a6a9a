"""Powers that are moved past one another, and which counts have powers that go along."""

from batchnumbers.basics import check_integer, check_integers, least_divisor, shared_part
from batchnumbers.batches import moduli, rounds_of
from batchnumbers.changes import (all_commute, change_of_row, changes, common_order, commute, few_makers, first_unlike,
                                  in_turn, raised, rows_by_change)
from batchnumbers.errors import InvalidQuestion
from batchnumbers.machines import is_rows_with_state, rows_among
from batchnumbers.splitting import powers_of
from batchnumbers.turned import check_arrangement


def may_move(machine, counts, arrangement):
    """Whether powers of any changes with the counts are the same in the order of the arrangement."""
    _check_moving(machine, counts, arrangement)
    return _clash(machine.states, changes(machine), counts, arrangement) is None


def move_fault(machine, counts, arrangement):
    """None, or some rows and a state from which their powers lead to unlike states in the two orders."""
    _check_moving(machine, counts, arrangement)
    known = rows_by_change(machine)
    clash = _clash(machine.states, sorted(known), counts, arrangement)
    if clash is None:
        return None
    rows = rows_among(len(counts), [(number, known[change]) for number, change in clash])
    before, behind = _both_orders(machine, counts, arrangement, rows)
    return rows, first_unlike(before, behind)


def is_move_fault(machine, counts, arrangement, value):
    """Whether a value is a move fault of the counts."""
    _check_moving(machine, counts, arrangement)
    if not is_rows_with_state(machine, len(counts), value):
        return False
    rows, state = value
    before, behind = _both_orders(machine, counts, arrangement, rows)
    return before[state] != behind[state]


def _check_moving(machine, counts, arrangement):
    """Refuses a machine with too many changes, then what are no counts, then what is no arrangement of so many."""
    changes(machine)
    check_integers(counts, 1)
    check_arrangement(arrangement, 2)
    if len(arrangement) != len(counts):
        raise InvalidQuestion(2)


def _both_orders(machine, counts, arrangement, rows):
    """The changes of the rows' powers as they are numbered, and in the order of the arrangement."""
    steps = [raised(change_of_row(machine, row), count) for row, count in zip(rows, counts)]
    return in_turn(machine.states, steps), in_turn(machine.states, [steps[number] for number in arrangement])


def _clash(states, group, counts, arrangement):
    """None, or two pairs (number, change) whose powers are turned round, but do not change places."""
    few = {count: few_makers(states, powers_of(group, count)) for count in counts}
    for at, one in enumerate(arrangement):
        for other in arrangement[at + 1:]:
            pair = None if one < other else _first_apart(few[counts[one]], few[counts[other]])
            if pair is not None:
                first, second = pair
                return (one, _base_of(group, counts[one], first)), (other, _base_of(group, counts[other], second))
    return None


def _first_apart(some, others):
    """The first two of some changes and others that do not change places, None if all do."""
    for one in some:
        for other in others:
            if not commute(one, other):
                return one, other
    return None


def _base_of(group, count, power):
    """The first change of the group with this power, None if there is none."""
    for change in group:
        if raised(change, count) == power:
            return change
    return None


def least_along(machine, count):
    """The least integer from 1 on whose powers all change places with those of the count."""
    group = changes(machine)
    check_integer(count, 1)
    # What changes places with a few of the powers does so with all that are made of them.
    return rounds_of(group, few_makers(machine.states, powers_of(group, count)))


def least_together(machine):
    """The least integer from 1 on whose powers all change places with one another."""
    group = changes(machine)
    # Such integers are the multiples of the least one, and the common order is one of them.
    return least_divisor(common_order(group), lambda count: _go_together(machine.states, powers_of(group, count)))


def _go_together(states, group):
    """Whether any two of the group change places."""
    few = few_makers(states, group)
    return all_commute(few, few)


def rounds(machine):
    """The integers of which each divides one of two counts without common divisor exactly if these go along."""
    whole = least_along(machine, 1)
    return tuple(sorted([shared_part(whole, modulus) for modulus in moduli(machine)]))
