"""Machines as texts."""

from batchnumbers.errors import InvalidText
from batchnumbers.machines import Machine, first_losing


def machine_text(machine):
    """The text of the machine: a line for its size, then one for each state."""
    lines = [f"machine {machine.commands} {machine.states}"]
    for entry in machine.steps:
        lines.append(" ".join([str(state) for state in entry]))
    return "\n".join(lines)


def read_machine(text):
    """The machine with exactly this text."""
    if not isinstance(text, str):
        raise InvalidText(0)
    lines = text.split("\n")
    commands, states = _read_head(lines[0])
    steps = []
    for at in range(1, len(lines)):
        if at > states:
            raise InvalidText(at)
        steps.append(_read_entry(lines[at], at, commands, states))
    if len(steps) < states or first_losing(commands, steps) is not None:
        raise InvalidText(len(lines))
    return Machine(commands, steps)


def _read_head(line):
    """The numbers of commands and states of the first line."""
    words = line.split(" ")
    if len(words) != 3 or words[0] != "machine":
        raise InvalidText(0)
    commands, states = _number(words[1]), _number(words[2])
    if commands < 1 or states < 1:
        raise InvalidText(0)
    return commands, states


def _read_entry(line, at, commands, states):
    """The next states of the line with this index."""
    entry = [_number(word) for word in line.split(" ")]
    if len(entry) != commands:
        raise InvalidText(at)
    for state in entry:
        if not 0 <= state < states:
            raise InvalidText(at)
    return entry


def _number(word):
    """The number that a word stands for, -1 if it is none in one or two figures."""
    # Other signs than 0 to 9 count as digits, too, unless they are barred first.
    if len(word) > 2 or not word.isascii() or not word.isdigit():
        return -1
    if len(word) == 2 and word[0] == "0":
        return -1
    return int(word)
