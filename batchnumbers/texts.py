"""Machines as texts."""

from batchnumbers.basics import read_number
from batchnumbers.errors import InvalidText
from batchnumbers.machines import Machine, first_losing

FIGURES = 2


def machine_text(machine):
    """The text of the machine: a line for its size, then one for each state."""
    lines = [f"machine {machine.commands} {machine.states}"]
    for entry in machine.steps:
        lines.append(" ".join([str(state) for state in entry]))
    return "\n".join(lines)


def read_machine(text):
    """The machine with exactly this text."""
    if not isinstance(text, str):
        raise InvalidText(0)
    lines = text.split("\n")
    commands, states = _read_head(lines[0])
    steps = []
    for at in range(1, len(lines)):
        if at > states:
            raise InvalidText(at)
        steps.append(_read_entry(lines[at], at, commands, states))
    if len(steps) < states or first_losing(commands, steps) is not None:
        raise InvalidText(len(lines))
    return Machine(commands, steps)


def _read_head(line):
    """The numbers of commands and states of the first line."""
    words = line.split(" ")
    if len(words) != 3 or words[0] != "machine":
        raise InvalidText(0)
    commands, states = read_number(words[1], FIGURES), read_number(words[2], FIGURES)
    if commands < 1 or states < 1:
        raise InvalidText(0)
    return commands, states


def _read_entry(line, at, commands, states):
    """The next states of the line with this index."""
    entry = [read_number(word, FIGURES) for word in line.split(" ")]
    if len(entry) != commands:
        raise InvalidText(at)
    for state in entry:
        if not 0 <= state < states:
            raise InvalidText(at)
    return entry
