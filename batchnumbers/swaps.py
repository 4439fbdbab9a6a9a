"""Swaps of neighbouring letters, and how many patterns of two letters have which crossings."""

from batchnumbers.basics import is_integer
from batchnumbers.errors import InvalidQuestion
from batchnumbers.patterns import check_pattern, crossing_table


def harmless_swaps(pattern, number):
    """Some shortest tuple of indexes of swaps that make the crossings a multiple of the number."""
    check_pattern(pattern, 0)
    if not all([letter < 2 for letter in pattern]):
        raise InvalidQuestion(0)
    _check_from(number, 1, 1)
    many = crossing_table(pattern).get((0, 1), 0)
    # A swap makes one crossing more or one fewer; no pattern of these letters has more than so many.
    most = pattern.count(0) * pattern.count(1)
    fewer = many % number
    more = number - fewer
    if fewer <= more or many + more > most:
        return _swaps_behind(pattern, 1, fewer)
    return _swaps_behind(pattern, 0, more)


def _check_from(value, least, at):
    """Refuses what is no integer from the least one on, an argument with this index."""
    if not is_integer(value) or value < least:
        raise InvalidQuestion(at)


def _swaps_behind(pattern, letter, many):
    """The indexes of so many swaps, each of which puts this letter behind the other one."""
    letters = list(pattern)
    found = []
    at = 0
    while len(found) < many:
        if letters[at] == letter and letters[at + 1] != letter:
            letters[at], letters[at + 1] = letters[at + 1], letters[at]
            found.append(at)
            # Of the places passed already only the one before may have come to be such a place.
            at = max(at - 1, 0)
        else:
            at += 1
    return tuple(found)


def pattern_counts(zeros, ones, number):
    """How many patterns of so many 0 and 1 have crossings that leave each number below the last argument."""
    _check_from(zeros, 0, 0)
    _check_from(ones, 0, 1)
    _check_from(number, 1, 2)
    alone = (1,) + (0,) * (number - 1)
    # At each index are told the patterns of so many 1 and of as many 0 as rounds have been done.
    table = [alone] * (ones + 1)
    for _ in range(zeros):
        longer = [alone]
        for many in range(1, ones + 1):
            # A 0 at the end crosses each 1, a 1 at the end crosses nothing.
            last_zero = _shifted(table[many], many)
            longer.append(tuple([one + other for one, other in zip(last_zero, longer[many - 1])]))
        table = longer
    return table[ones]


def _shifted(counts, many):
    """The counts of the rests, each rest being so many more."""
    start = -many % len(counts)
    return counts[start:] + counts[:start]
