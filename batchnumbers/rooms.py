"""Machines whose commands do the rows of another one, and rooms, out of which no command leads."""

from batchnumbers.basics import is_ascending, is_below, is_sequence
from batchnumbers.changes import change_of_row
from batchnumbers.errors import InvalidQuestion, InvalidRow
from batchnumbers.machines import Machine, is_row


def with_rows(machine, rows):
    """The machine with the same states whose commands do what the rows do."""
    if not is_sequence(rows) or len(rows) == 0:
        raise InvalidRow(0)
    for at, entry in enumerate(rows):
        if not is_sequence(entry) or not is_row(machine, tuple(entry)):
            raise InvalidRow(at)
    led = [change_of_row(machine, entry) for entry in rows]
    return Machine(len(led), [[change[state] for change in led] for state in range(machine.states)])


def is_room(machine, value):
    """Whether a value is an ascending tuple of one or more states out of which no command leads."""
    if not isinstance(value, tuple) or len(value) == 0:
        return False
    if not all([is_below(state, machine.states) for state in value]) or not is_ascending(value):
        return False
    inside = {state: True for state in value}
    return all([to in inside for state in value for to in machine.steps[state]])


def rooms(machine):
    """The rooms that hold no other room."""
    found = []
    met = {}
    for start in range(machine.states):
        if start not in met:
            room = _room_around(machine, start)
            found.append(room)
            for state in room:
                met[state] = True
    return tuple(found)


def _room_around(machine, start):
    """The least room with this state."""
    # What loses nothing comes back, so whatever is led to leads to this state again.
    inside = {start: True}
    waiting = [start]
    while waiting:
        state = waiting.pop()
        for to in machine.steps[state]:
            if to not in inside:
                inside[to] = True
                waiting.append(to)
    return tuple(sorted(inside))


def room_machine(machine, room):
    """The machine with the same commands whose states are those of the room."""
    if not is_room(machine, room):
        raise InvalidQuestion(1)
    numbers = {state: at for at, state in enumerate(room)}
    return Machine(machine.commands, [[numbers[to] for to in machine.steps[state]] for state in room])
