"""Changes: what rows of commands do to all states at once.

The functions that the document names check what they are passed; those behind them (`composed`,
`raised` and so on) are for changes that have been checked or made here.
"""

from math import lcm

from batchnumbers.basics import is_below
from batchnumbers.errors import InvalidChange, Refused
from batchnumbers.machines import checked_row

MOST_CHANGES = 400


def is_change(states, value):
    """Whether a value is a change of so many states."""
    if not isinstance(value, tuple) or len(value) != states or states < 1:
        return False
    # Only what is surely an integer may be put into a set: 1.0 and True would pass for 1 there.
    if not all([is_below(state, states) for state in value]):
        return False
    return len(set(value)) == states


def checked_change(states, value):
    """The value as it is, a tuple of just the states below `states`, each once."""
    if not is_change(states, value):
        raise InvalidChange(0)
    return value


def _check_alone(value):
    """Refuses what is no change of any number of states."""
    if not isinstance(value, tuple):
        raise InvalidChange(0)
    checked_change(len(value), value)


def _check_two(one, other):
    """Refuses what are no two changes of as many states."""
    _check_alone(one)
    checked_change(len(one), other)


def idle_change(states):
    """The change that leaves all states as they are."""
    return tuple(range(states))


def composed(one, other):
    """What does the first change, then the second."""
    return tuple([other[state] for state in one])


def in_turn(states, steps):
    """All the changes, one after another."""
    change = idle_change(states)
    for step in steps:
        change = composed(change, step)
    return change


def first_unlike(one, other):
    """The first state that two unlike changes lead to unlike states."""
    state = 0
    while one[state] == other[state]:
        state += 1
    return state


def undone(change):
    """What undoes the change."""
    out = [0] * len(change)
    for state, to in enumerate(change):
        out[to] = state
    return tuple(out)


def round_from(change, start):
    """The states through which the change leads round, from this one on."""
    cycle = [start]
    state = change[start]
    while state != start:
        cycle.append(state)
        state = change[state]
    return cycle


def led(change, start, count):
    """The state to which the power of the change with this count leads one state."""
    cycle = round_from(change, start)
    return cycle[count % len(cycle)]


def _cycles(change):
    """The lists of states through which the change leads round."""
    met = [False] * len(change)
    cycles = []
    for start in change:
        if not met[start]:
            cycle = round_from(change, start)
            for state in cycle:
                met[state] = True
            cycles.append(cycle)
    return cycles


def raised(change, count):
    """The power of the change with this count."""
    out = [0] * len(change)
    # Counts may have hundreds of digits, so each round is turned by what the count leaves.
    for cycle in _cycles(change):
        shift = count % len(cycle)
        for state, to in zip(cycle, cycle[shift:] + cycle[:shift]):
            out[state] = to
    return tuple(out)


def order_of(change):
    """The least count from 1 on whose power is idle."""
    least = 1
    for cycle in _cycles(change):
        least = lcm(least, len(cycle))
    return least


def common_order(group):
    """The least common multiple of the orders of the changes."""
    least = 1
    for change in group:
        least = lcm(least, order_of(change))
    return least


def commute(one, other):
    """Whether the changes change places."""
    return composed(one, other) == composed(other, one)


def commute_with_all(change, others):
    """Whether the change changes places with each of the others."""
    for other in others:
        if not commute(change, other):
            return False
    return True


def all_commute(some, others):
    """Whether each change of the first changes places with each of the others."""
    for change in some:
        if not commute_with_all(change, others):
            return False
    return True


def looped(one, other, count):
    """The power of one followed by other."""
    return raised(composed(one, other), count)


def split_looped(one, other, count):
    """The power of one followed by that of other."""
    return composed(raised(one, count), raised(other, count))


def numbered(states, makers):
    """The changes that are made of the makers, numbered as they are found, the idle one first.

    A dict of the numbers; for each maker the numbers of all changes followed by it; the first of the shortest rows
    of makers' indexes for each number.
    """
    numbers = {idle_change(states): 0}
    found = list(numbers)
    rows = [()]
    ahead = [[] for _ in makers]
    at = 0
    while at < len(found):
        change = found[at]
        for index, maker in enumerate(makers):
            # Most of the work of the package is done in this place, so there is no call of `composed`.
            to = tuple([maker[state] for state in change])
            number = numbers.setdefault(to, len(found))
            if number == len(found):
                # There may be very many: stop at the first one too many.
                if number == MOST_CHANGES:
                    raise Refused(0)
                found.append(to)
                rows.append(rows[at] + (index,))
            ahead[index].append(number)
        at += 1
    return numbers, ahead, rows


def reached(states, makers):
    """The changes that are made of the makers, each with the first of its shortest rows of makers' indexes."""
    numbers, _, rows = numbered(states, makers)
    return {change: row for change, row in zip(numbers, rows)}


def grown(states, group):
    """Some few of the changes of which all the others are made, and all that is made of them, to look it up."""
    few = []
    made = reached(states, few)
    for change in group:
        if change not in made:
            few.append(change)
            made = reached(states, few)
    return few, made


def few_makers(states, group):
    """Some few of the changes of which, one after another, all the others are made."""
    return grown(states, group)[0]


def spanned(states, group):
    """The changes that are made of those of the group, ascending."""
    return tuple(sorted(grown(states, group)[1]))


def command_changes(machine):
    """The changes of the single commands."""
    return [tuple([entry[command] for entry in machine.steps]) for command in range(machine.commands)]


def rows_by_change(machine):
    """The changes of the machine, each with the first of its shortest rows."""
    return reached(machine.states, command_changes(machine))


def checked_known(machine, known, value):
    """The value, if it is one of the known changes of the machine's rows, as it is."""
    if checked_change(machine.states, value) not in known:
        raise InvalidChange(0)
    return value


def change_of_row(machine, row):
    """The change of what is surely a row."""
    out = []
    for start in range(machine.states):
        state = start
        for command in row:
            state = machine.steps[state][command]
        out.append(state)
    return tuple(out)


def followed(one, other):
    """What does the first change, then the second."""
    _check_two(one, other)
    return composed(one, other)


def back(change):
    """What undoes the change."""
    _check_alone(change)
    return undone(change)


def power(change, count):
    """The change done so many times, below 0 undone so many times."""
    _check_alone(change)
    return raised(change, count)


def order(change):
    """The least count from 1 on whose power is idle."""
    _check_alone(change)
    return order_of(change)


def change_of(machine, row):
    """The states to which the row leads each state."""
    return change_of_row(machine, checked_row(machine, row))


def changes(machine):
    """The changes of all rows."""
    return tuple(sorted(rows_by_change(machine)))


def row_for(machine, change):
    """The first of the shortest rows with this change."""
    rows = rows_by_change(machine)
    return rows[checked_known(machine, rows, change)]


def orders(machine):
    """The least common multiple of the orders of all changes."""
    return common_order(changes(machine))


def change_places(one, other):
    """Whether each of the changes followed by the other is the same."""
    _check_two(one, other)
    return commute(one, other)


def middle(machine):
    """The changes that change places with all changes of the machine."""
    makers = command_changes(machine)
    return tuple([change for change in changes(machine) if commute_with_all(change, makers)])


def never_matters(machine):
    """Whether any two commands change places."""
    makers = command_changes(machine)
    return all_commute(makers, makers)


def loop(one, other, count):
    """The power of one followed by other."""
    _check_two(one, other)
    return looped(one, other, count)


def split_loop(one, other, count):
    """The power of one followed by that of other."""
    _check_two(one, other)
    return split_looped(one, other, count)
