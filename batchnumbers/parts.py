"""Parts of a machine: lots of its changes that hold what comes about by following one another."""

from batchnumbers.basics import is_ascending, is_sequence
from batchnumbers.batches import number_of, rounds_of
from batchnumbers.changes import all_commute, changes, commute_with_all, few_makers, grown, is_change, spanned
from batchnumbers.errors import InvalidChange, InvalidQuestion
from batchnumbers.tables import Table


def is_part(machine, value):
    """Whether a value is a part of the machine."""
    return is_part_within(machine.states, _known(machine), value)


def is_part_within(states, known, value):
    """Whether a value is a part of a machine with these known changes."""
    if not isinstance(value, tuple):
        return False
    for change in value:
        if not is_change(states, change) or change not in known:
            return False
    # What comes about by following, idle included, holds the value; no more of it may come about.
    return is_ascending(value) and len(value) == len(grown(states, value)[1])


def part_of(machine, value):
    """The least part in which all changes of a sequence stand."""
    known = _known(machine)
    if not is_sequence(value):
        raise InvalidChange(0)
    for at, change in enumerate(value):
        if not is_change(machine.states, change) or change not in known:
            raise InvalidChange(at)
    return spanned(machine.states, value)


def part_middle(machine, part):
    """The changes of the part that change places with all of it."""
    _check_part(machine, _known(machine), part, 1)
    return middle_of(machine.states, part)


def middle_of(states, part):
    """The changes of what is surely a part that change places with all of it."""
    makers = few_makers(states, part)
    return tuple([change for change in part if commute_with_all(change, makers)])


def along(machine, one, other):
    """Whether each change of the one part changes places with each of the other."""
    known = _known(machine)
    _check_part(machine, known, one, 1)
    _check_part(machine, known, other, 2)
    return all_commute(few_makers(machine.states, one), few_makers(machine.states, other))


def is_made_of(machine, part, value):
    """Whether the part is made of any value, a tuple of one or more parts."""
    known = _known(machine)
    _check_part(machine, known, part, 1)
    if not isinstance(value, tuple) or len(value) == 0:
        return False
    inside = {change: True for change in part}
    makers, made = grown(machine.states, ())
    for entry in value:
        if not is_part_within(machine.states, inside, entry):
            return False
        # Who changes places with all parts so far does so with all that is made of them.
        more = few_makers(machine.states, entry)
        if not all_commute(makers, more):
            return False
        makers, made = grown(machine.states, makers + more)
    return len(made) == len(part)


def part_rounds(machine, part):
    """The least count from 1 on for which all powers of the part's changes lie in its middle."""
    _check_part(machine, _known(machine), part, 1)
    return rounds_of(part, few_makers(machine.states, part))


def part_number(machine, part):
    """The least such count that splits all loops of the part's changes, besides."""
    _check_part(machine, _known(machine), part, 1)
    return number_of(Table(machine.states, few_makers(machine.states, part)))


def _known(machine):
    """The changes of the machine, to look them up."""
    return {change: True for change in changes(machine)}


def _check_part(machine, known, value, at):
    if not is_part_within(machine.states, known, value):
        raise InvalidQuestion(at)


def checked_part(machine, part):
    """The part, any value, behind the machine, as it is."""
    _check_part(machine, _known(machine), part, 1)
    return part
