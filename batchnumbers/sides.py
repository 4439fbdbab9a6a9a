"""Two machines as one: side by side, paired, in step."""

from batchnumbers.errors import Refused
from batchnumbers.machines import Machine


def _behind(one, other):
    """The steps of the second machine, its states being numbered on behind those of the first."""
    return [[one.states + to for to in entry] for entry in other.steps]


def side_by_side(one, other):
    """The states and commands of both machines, each command leaving the other's states as they are."""
    steps = [list(entry) + [state] * other.commands for state, entry in enumerate(one.steps)]
    for state, entry in enumerate(_behind(one, other)):
        steps.append([one.states + state] * one.commands + entry)
    return Machine(one.commands + other.commands, steps)


def paired(one, other):
    """The commands of both machines, each state being one of the first with one of the second."""
    steps = []
    for first, entry in enumerate(one.steps):
        for second, beside in enumerate(other.steps):
            steps.append([to * other.states + second for to in entry]
                         + [first * other.states + to for to in beside])
    return Machine(one.commands + other.commands, steps)


def in_step(one, other):
    """The states of both machines, each command doing what it does in the first and in the second."""
    if one.commands != other.commands:
        raise Refused(1)
    return Machine(one.commands, list(one.steps) + _behind(one, other))
