"""Couples of changes, looked at from one state."""

from math import lcm

from batchnumbers.basics import is_below, least_divisor
from batchnumbers.changes import followed, loop, round_from, split_loop
from batchnumbers.errors import Refused


def alike_states(one, other, count):
    """The states that the loop and the split loop lead to one state."""
    together, apart = loop(one, other, count), split_loop(one, other, count)
    return tuple([state for state, to in enumerate(together) if to == apart[state]])


def start_round(one, other, state):
    """The least integer from 1 on that may be added to any count without making it suit from the state or not."""
    return len(_least_round(one, other, state))


def start_rests(one, other, state):
    """The numbers below this integer that suit from the state."""
    return tuple([count for count, suiting in enumerate(_least_round(one, other, state)) if suiting])


def _least_round(one, other, state):
    """Whether each of the numbers suits from the state, up to where it all comes again."""
    both = followed(one, other)
    if not is_below(state, len(both)):
        raise Refused(0)
    told = _suiting(round_from(both, state), [round_from(other, first) for first in round_from(one, state)])
    least = least_divisor(len(told), lambda many: told[many:] + told[:many] == told)
    return told[:least]


def _suiting(together, apart):
    """Whether each of the numbers suits, up to where all these rounds of states begin again.

    The first is that of the loops, the others are those of the second change behind each power of the first one.
    """
    length = lcm(len(together), len(apart))
    for cycle in apart:
        length = lcm(length, len(cycle))
    told = []
    for count in range(length):
        cycle = apart[count % len(apart)]
        told.append(together[count % len(together)] == cycle[count % len(cycle)])
    return told
