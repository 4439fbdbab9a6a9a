"""Mild machines, whose gaps disturb nothing, and which patterns are alike on them."""

from batchnumbers.basics import is_integer, is_tuple_of, prime_powers
from batchnumbers.changes import (all_commute, change_of_row, command_changes, common_order, composed, first_unlike,
                                  followed, idle_change, in_turn, raised, rows_by_change, undone)
from batchnumbers.errors import InvalidQuestion, Refused
from batchnumbers.machines import is_rows_with_state, rows_among
from batchnumbers.patterns import LETTERS, check_pattern, crossing_table


def gap(one, other):
    """What does, behind one followed by other, what other followed by one does."""
    return composed(undone(followed(one, other)), followed(other, one))


def _command_gaps(machine):
    """The gaps of any two commands: first command, second command, gap."""
    makers = command_changes(machine)
    return [(first, second, gap(one, other))
            for first, one in enumerate(makers) for second, other in enumerate(makers) if first < second]


def is_mild(machine):
    """Whether the gap of any two changes changes places with all of them."""
    # It is enough to look at the gaps of commands.
    return all_commute([told for _, _, told in _command_gaps(machine)], command_changes(machine))


def mild_fault(machine):
    """None, or some rows u, v, w and a state from which u v w v u and v u w u v lead to unlike states."""
    between = [()] + [(command,) for command in range(machine.commands)]
    for first, second, _ in _command_gaps(machine):
        for row in between:
            rows = ((first,), (second,), row)
            there, back_again = _to_and_fro(machine, rows)
            if there != back_again:
                return rows + (first_unlike(there, back_again),)
    return None


def is_mild_fault(machine, value):
    """Whether a value is a mild fault of the machine."""
    if not is_tuple_of(value, 4) or not is_rows_with_state(machine, 3, (value[:3], value[3])):
        return False
    there, back_again = _to_and_fro(machine, value[:3])
    return there[value[3]] != back_again[value[3]]


def _to_and_fro(machine, rows):
    """The changes of u v w v u and of v u w u v for the three rows."""
    u, v, w = [change_of_row(machine, row) for row in rows]
    return in_turn(machine.states, [u, v, w, v, u]), in_turn(machine.states, [v, u, w, u, v])


def crossing_number(machine):
    """The least count from 1 on for which the powers of all gaps are idle."""
    _check_mild(machine)
    # The gaps are made of those of commands, and change places.
    return common_order([told for _, _, told in _command_gaps(machine)])


def _check_mild(machine):
    if not is_mild(machine):
        raise Refused(1)


def alike(machine, one, other):
    """Whether two patterns do the same, whatever rows are put for the letters."""
    return _telling_rows(machine, one, other) is None


def alike_fault(machine, one, other):
    """None, or some rows for the letters and a state from which the patterns lead to unlike states."""
    told = _telling_rows(machine, one, other)
    if told is None:
        return None
    rows = rows_among(_row_count(one, other), told)
    return rows, first_unlike(_pattern_change(machine, one, rows), _pattern_change(machine, other, rows))


def is_alike_fault(machine, one, other, value):
    """Whether a value is an alike fault of the two patterns."""
    check_pattern(one, 1)
    check_pattern(other, 2)
    if not is_rows_with_state(machine, _row_count(one, other), value):
        return False
    rows, state = value
    return _pattern_change(machine, one, rows)[state] != _pattern_change(machine, other, rows)[state]


def _row_count(one, other):
    """How many numbers there are up to the greatest letter in either pattern."""
    return max(one + other, default=-1) + 1


def _pattern_change(machine, pattern, rows):
    """The change of the pattern's row with these rows for the letters."""
    steps = [change_of_row(machine, row) for row in rows]
    return in_turn(machine.states, [steps[letter] for letter in pattern])


def _telling_rows(machine, one, other):
    """None, or pairs (letter, row) with which, all other rows being empty, the patterns have unlike changes."""
    known = rows_by_change(machine)
    _check_mild(machine)
    check_pattern(one, 1)
    check_pattern(other, 2)
    idle = idle_change(machine.states)
    for letter in range(LETTERS):
        more = one.count(letter) - other.count(letter)
        for change in known:
            if raised(change, more) != idle:
                return [(letter, known[change])]
    # From here on all powers of the single letters agree, so that only the crossings are left.
    for low, high, more in _crossing_differences(one, other):
        for first, second, told in _command_gaps(machine):
            if raised(told, more) != idle:
                return [(low, (first,)), (high, (second,))]
    return None


def _crossing_differences(one, other):
    """How many more crossings the first pattern has: lower letter, higher letter, how many."""
    first, second = crossing_table(one), crossing_table(other)
    return [(low, high, first.get((low, high), 0) - second.get((low, high), 0))
            for high in range(LETTERS) for low in range(high)]


def batch_moduli(number):
    """The moduli of each mild machine with this crossing number."""
    if not is_integer(number) or number < 1:
        raise InvalidQuestion(0)
    # Loops want half of n * (n - 1) to be a multiple, which takes twice the power of 2.
    return tuple(sorted([power * 2 if prime == 2 else power for prime, power in prime_powers(number)]))
