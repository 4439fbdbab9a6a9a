"""Machines that lose nothing, and rows of their commands."""

from batchnumbers.basics import is_below, is_integer, is_sequence, is_tuple_of
from batchnumbers.errors import InvalidMachine, InvalidRow


class Machine:
    """A machine of states and commands, each of which leads no two states to the same one."""

    def __init__(self, commands, steps):
        if not is_integer(commands) or commands < 1:
            raise InvalidMachine(0)
        if not is_sequence(steps) or len(steps) == 0:
            raise InvalidMachine(1)
        states = len(steps)
        for state, entry in enumerate(steps):
            if not _is_entry(entry, commands, states):
                raise InvalidMachine(2 + state)
        command = first_losing(commands, steps)
        if command is not None:
            raise InvalidMachine(2 + states + command)
        self.commands = commands
        self.states = states
        self.steps = tuple([tuple(entry) for entry in steps])

    def __eq__(self, other):
        return isinstance(other, Machine) and self.commands == other.commands and self.steps == other.steps


def _is_entry(value, commands, states):
    """Whether a value is a sequence of as many states as there are commands."""
    if not is_sequence(value) or len(value) != commands:
        return False
    return all([is_below(state, states) for state in value])


def first_losing(commands, steps):
    """The first command that leads two states to the same one, None if none does."""
    for command in range(commands):
        if len(set([entry[command] for entry in steps])) < len(steps):
            return command
    return None


def checked_row(machine, value):
    """The value, a sequence of commands, as a row."""
    if not is_sequence(value):
        raise InvalidRow(0)
    for at, command in enumerate(value):
        if not is_below(command, machine.commands):
            raise InvalidRow(at)
    return tuple(value)


def is_row(machine, value):
    """Whether a value is a row of the machine."""
    return isinstance(value, tuple) and all([is_below(command, machine.commands) for command in value])


def is_rows_with_state(machine, many, value):
    """Whether a value is a pair of a tuple of so many rows and a state."""
    if not is_tuple_of(value, 2) or not is_tuple_of(value[0], many):
        return False
    return all([is_row(machine, row) for row in value[0]]) and is_below(value[1], machine.states)


def rows_among(many, told):
    """So many rows: those of the pairs (number, row) that are told, all others empty."""
    rows = [()] * many
    for number, row in told:
        rows[number] = row
    return tuple(rows)
