"""Patterns: letters for which rows may be put, how often they stand there and how often they cross."""

from batchnumbers.basics import is_below, is_sequence
from batchnumbers.errors import InvalidQuestion
from batchnumbers.machines import checked_row

LETTERS = 8


def check_pattern(value, at):
    """Refuses what is no tuple of letters, an argument with this index."""
    if not isinstance(value, tuple) or not all([is_below(letter, LETTERS) for letter in value]):
        raise InvalidQuestion(at)


def tally(pattern):
    """Each letter of the pattern with how often it stands there."""
    check_pattern(pattern, 0)
    return tuple([(letter, pattern.count(letter)) for letter in range(LETTERS) if letter in pattern])


def crossings(pattern):
    """Each two letters with how many pairs of places have the higher one at the left, if there are any."""
    check_pattern(pattern, 0)
    table = crossing_table(pattern)
    return tuple([(low, high, table[(low, high)]) for low, high in sorted(table)])


def crossing_table(pattern):
    """The crossings of what is surely a pattern, to look them up by (lower letter, higher letter)."""
    met = [0] * LETTERS
    table = {}
    for low in pattern:
        met[low] += 1
        for high in range(low + 1, LETTERS):
            if met[high] > 0:
                table[(low, high)] = table.get((low, high), 0) + met[high]
    return table


def row_of(machine, pattern, rows):
    """The row in which the entry with its number stands for each letter."""
    check_pattern(pattern, 1)
    if not is_sequence(rows) or not all([letter < len(rows) for letter in pattern]):
        raise InvalidQuestion(2)
    known = [checked_row(machine, entry) for entry in rows]
    commands = []
    for letter in pattern:
        commands.extend(known[letter])
    return tuple(commands)
