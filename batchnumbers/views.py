"""Views, in which some states of a machine look alike, and the finest ones of them."""

from batchnumbers.basics import check_integers, is_below, is_sequence, is_tuple_of
from batchnumbers.changes import changes, command_changes, composed, raised
from batchnumbers.errors import InvalidQuestion
from batchnumbers.machines import Machine


def is_view(machine, value):
    """Whether a value is a view of the machine."""
    if not is_tuple_of(value, machine.states):
        return False
    met = 0
    for number in value:
        if not is_below(number, met + 1):
            return False
        if number == met:
            met += 1
    return all([_keeps_alike(machine, value, command) for command in range(machine.commands)])


def _keeps_alike(machine, view, command):
    """Whether the command leads two states with the same number to two with the same number."""
    led = {}
    for state, number in enumerate(view):
        to = view[machine.steps[state][command]]
        if led.setdefault(number, to) != to:
            return False
    return True


def view_machine(machine, view):
    """The machine with the same commands whose states are the numbers of the view."""
    if not is_view(machine, view):
        raise InvalidQuestion(1)
    # A number's first state tells where all of its states are led.
    return Machine(machine.commands, [[view[to] for to in machine.steps[view.index(number)]]
                                      for number in range(max(view) + 1)])


def view_with(machine, pairs):
    """The finest view in which both states of each pair have the same number."""
    if not is_sequence(pairs) or not all([_is_pair_of_states(machine, pair) for pair in pairs]):
        raise InvalidQuestion(1)
    return _finest_with(machine, pairs)


def _is_pair_of_states(machine, value):
    """Whether a value is a pair of states."""
    return is_tuple_of(value, 2) and all([is_below(state, machine.states) for state in value])


def _finest_with(machine, pairs):
    """The finest view in which both states of each of what are surely pairs have the same number."""
    names = list(range(machine.states))
    waiting = list(pairs)
    while waiting:
        one, other = waiting.pop()
        kept, left = names[one], names[other]
        if kept != left:
            names = [kept if name == left else name for name in names]
            waiting.extend(list(zip(machine.steps[one], machine.steps[other])))
    return _numbered(names)


def _numbered(names):
    """The names as numbers, given as they come."""
    numbers = {}
    for name in names:
        numbers.setdefault(name, len(numbers))
    return tuple([numbers[name] for name in names])


def is_telling(machine, value):
    """Whether a value is a tuple of one or more views that together tell all states apart."""
    if not isinstance(value, tuple) or len(value) == 0:
        return False
    if not all([is_view(machine, view) for view in value]):
        return False
    return len(set([tuple([view[state] for view in value]) for state in range(machine.states)])) == machine.states


def finest_view(machine, counts):
    """The finest view for whose machine all the counts are batch numbers."""
    group = changes(machine)
    check_integers(counts, 1)
    pairs = {}
    for count in counts:
        for both in _ends(group, command_changes(machine), count):
            pairs[both] = True
    return _finest_with(machine, list(pairs))


def _ends(group, makers, count):
    """The pairs of states to which loops and split loops with this count lead from one state."""
    powers_of = {change: raised(change, count) for change in group}
    pairs = {}
    # A view's machine does what this one does, so for it too loops that end with a command will do.
    for maker in makers:
        for change in group:
            split = composed(powers_of[change], powers_of[maker])
            for both in zip(powers_of[composed(change, maker)], split):
                pairs[both] = True
    return list(pairs)
