"""Machines to test with, and what is needed to look at them by brute force."""

import sys

from batchnumbers.errors import BatchError
from batchnumbers.machines import Machine

BIG = 123456789012345678901234567890


class NoValue:
    """A thing that is of no kind that is asked for anywhere."""


def oddities():
    """Values that are neither integers nor sequences, and that look like integers at times."""
    return [None, True, False, 1.0, "1", "", b"0", {}, {0: 1}, {0, 1}, NoValue(), len]


def of_cycles(states, *cycles):
    """The change that leads round each of the cycles."""
    out = list(range(states))
    for cycle in cycles:
        for at, state in enumerate(cycle):
            out[state] = cycle[(at + 1) % len(cycle)]
    return tuple(out)


def of_changes(*commands):
    """The machine whose commands have these changes."""
    return Machine(len(commands), [tuple(step[state] for step in commands) for state in range(len(commands[0]))])


def beside(one, other):
    """The commands of both machines, the states of the second behind those of the first."""
    states = one.states + other.states
    steps = []
    for command in range(one.commands):
        steps.append([row[command] for row in one.steps] + list(range(one.states, states)))
    for command in range(other.commands):
        steps.append(list(range(one.states)) + [one.states + row[command] for row in other.steps])
    return of_changes(*steps)


def regular(order, product, makers):
    """The machine whose states are the members of a group and whose commands multiply by the makers."""
    return Machine(len(makers), [[product(state, maker) for maker in makers] for state in range(order)])


def quaternion_product(one, other):
    """i ** a * j ** b as 2 * a + b, with i ** 4 = 1, j * j = i * i, j * i = i ** 3 * j."""
    a, b = divmod(one, 2)
    c, d = divmod(other, 2)
    turns = a + (c if b == 0 else -c)
    if b + d == 2:
        turns += 2
    return 2 * (turns % 4) + (b + d) % 2


TRIVIAL = Machine(1, [(0,)])
STILL = Machine(2, [(0, 0), (1, 1), (2, 2)])
PAIR = Machine(1, [(1,), (0,)])
TURNS = Machine(2, [(1, 0), (2, 2), (0, 1)])
SQUARE = Machine(2, [(1, 0), (2, 3), (3, 2), (0, 1)])
TWO = Machine(2, [(1, 0), (0, 1), (2, 3), (3, 4), (4, 2)])
RING4 = of_changes(of_cycles(4, (0, 1, 2, 3)))
RING6 = of_changes(of_cycles(5, (0, 1), (2, 3, 4)))
KLEIN = of_changes(of_cycles(4, (0, 1)), of_cycles(4, (2, 3)))
CUBE8 = of_changes(of_cycles(6, (0, 1)), of_cycles(6, (2, 3)), of_cycles(6, (4, 5)))
QUATERNION = regular(8, quaternion_product, (2, 1))
FIVES = of_changes(of_cycles(5, (0, 1, 2, 3, 4)), of_cycles(5, (1, 4), (2, 3)))
EIGHTS = of_changes(of_cycles(8, (0, 1, 2, 3, 4, 5, 6, 7)), of_cycles(8, (1, 7), (2, 6), (3, 5)))
EVEN4 = of_changes(of_cycles(4, (0, 1, 2)), of_cycles(4, (1, 2, 3)))
ALL4 = of_changes(of_cycles(4, (0, 1, 2, 3)), of_cycles(4, (0, 1)))
EVEN5 = of_changes(of_cycles(5, (0, 1, 2, 3, 4)), of_cycles(5, (0, 1, 2)))
TWENTY = of_changes(of_cycles(5, (0, 1, 2, 3, 4)), of_cycles(5, (1, 2, 4, 3)))
TWENTY_ONE = of_changes(of_cycles(7, (0, 1, 2, 3, 4, 5, 6)), of_cycles(7, (1, 2, 4), (3, 6, 5)))
THREES = of_changes(of_cycles(9, (0, 3, 6), (1, 4, 7), (2, 5, 8)), of_cycles(9, (3, 4, 5), (6, 8, 7)))
SHIFTED = of_changes(of_cycles(6, (1, 3, 5)), of_cycles(6, (3, 5)))
SQUARE_PAIR = beside(SQUARE, PAIR)
SQUARE_NINE = beside(SQUARE, THREES)
SQUARE_TWENTY_ONE = beside(SQUARE, TWENTY_ONE)
THREES_FIVES = beside(THREES, FIVES)
TURNS_FIVES = beside(TURNS, FIVES)
EXACTLY_400 = beside(TWENTY, TWENTY)
OVER_400 = of_changes(of_cycles(6, (0, 1, 2, 3, 4, 5)), of_cycles(6, (0, 1)))
HUGE = of_changes(of_cycles(16, tuple(range(16))), of_cycles(16, (0, 1)))

SMALL = [TRIVIAL, STILL, PAIR, TURNS, SQUARE, TWO, RING4, RING6, KLEIN, CUBE8, QUATERNION, FIVES, EIGHTS, EVEN4,
         ALL4, TWENTY, TWENTY_ONE, THREES, SHIFTED, SQUARE_PAIR]
LARGE = [EVEN5, SQUARE_NINE, SQUARE_TWENTY_ONE, THREES_FIVES, TURNS_FIVES]


# Machines of 210 and 168 changes with moduli 10 and 21, 4 and 21, on which much may be done again and again.
TEN_TWENTY_ONE = Machine(4, (
    (10, 0, 5, 0), (1, 1, 1, 6), (2, 4, 2, 11), (3, 11, 3, 9), (4, 6, 4, 3), (8, 5, 0, 5),
    (6, 2, 6, 2), (5, 7, 10, 7), (0, 8, 8, 8), (9, 3, 9, 1), (7, 10, 7, 10), (11, 9, 11, 4)))
FOUR_TWENTY_ONE = Machine(4, (
    (0, 12, 11, 0), (4, 1, 1, 1), (6, 2, 2, 10), (3, 11, 13, 3), (14, 4, 4, 14), (5, 7, 12, 5), (1, 6, 6, 2),
    (7, 3, 0, 7), (2, 8, 8, 4), (9, 13, 7, 9), (8, 10, 10, 6), (11, 5, 9, 11), (12, 9, 3, 12), (13, 0, 5, 13),
    (10, 14, 14, 8)))


def then(one, other):
    """What does the first change, then the second, by the words of the document."""
    return tuple(other[state] for state in one)


def times(change, count):
    """The power of a change, step by step."""
    out = tuple(range(len(change)))
    if count < 0:
        step = tuple(sorted(range(len(change)), key=lambda state: change[state]))
    else:
        step = change
    for _ in range(abs(count)):
        out = then(out, step)
    return out


def all_changes(machine):
    """The changes of all rows, by brute force."""
    commands = [tuple(row[command] for row in machine.steps) for command in range(machine.commands)]
    found = {tuple(range(machine.states))}
    while True:
        more = found | {then(one, other) for one in found for other in commands}
        if more == found:
            return tuple(sorted(found))
        found = more


def splits_all(group, count):
    """Whether the count splits the loops of any two of these changes, by brute force."""
    powers = {one: times(one, count) for one in group}
    return all(powers[then(one, other)] == then(powers[one], powers[other]) for one in group for other in group)


def error_of(function, *arguments):
    """What the function raises, as a pair of the name of its class and its `at`; None if it raises nothing."""
    try:
        function(*arguments)
    except BatchError as error:
        return error.__class__.__name__, getattr(error, "at", None)
    return None


def work_of(function, *arguments):
    """How many lines are run in the call, each step of a comprehension counted: the same on each run, unlike times."""
    lines = 0

    def count_lines(frame, event, told):
        nonlocal lines
        if event == "line":
            lines += 1
        return count_lines

    before = sys.gettrace()
    sys.settrace(count_lines)
    try:
        error_of(function, *arguments)
    finally:
        sys.settrace(before)
    return lines
