"""Points 31 and 32: turned numbers, loops split in any order."""

import math
import unittest
from itertools import permutations, product

from batchnumbers.batches import is_batch_number, moduli
from batchnumbers.changes import change_of, changes
from batchnumbers.machines import Machine
from batchnumbers.turned import is_split_fault, is_turned_number, split_fault, splits_into
from tests.helpers import (BIG, EXACTLY_400, FIVES, HUGE, KLEIN, LARGE, OVER_400, PAIR, QUATERNION, RING6, SMALL, SQUARE,
                           SQUARE_NINE, STILL, THREES_FIVES, TRIVIAL, TURNS, TWENTY, error_of, oddities, then, times)

REFUSED = ("Refused", 0)
NO_COUNTS = oddities() + [(1,), [1], ()]
NO_ARRANGEMENTS = oddities() + [0, 1, (), [], [0], [0, 1], (1,), (-1,), (0, 0), (0, 2), (1, 2), (0, 1, 3), (0, 1, 1),
                                (True,), (False,), (0, True), (0.0,), (0, 1.0), ("0",), (0, "1"), (None,), (0, None),
                                ((0,),), (0, (1,)), (0, [1])]
ARRANGEMENTS = [order for many in range(1, 5) for order in permutations(range(many))]


def in_order(states, steps):
    change = tuple(range(states))
    for step in steps:
        change = then(change, step)
    return change


def both_ways(machine, arrangement, count, steps):
    """The loop of the changes and the split loops, by the words of the document."""
    loop = times(in_order(machine.states, steps), count)
    return loop, in_order(machine.states, [times(steps[number], count) for number in arrangement])


def splits_all(machine, arrangement, count):
    """Whether the count splits all loops so, by trying all changes."""
    for steps in product(changes(machine), repeat=len(arrangement)):
        loop, split = both_ways(machine, arrangement, count, steps)
        if loop != split:
            return False
    return True


def is_fault(machine, arrangement, count, fault):
    """Whether this is a split fault, by the words of the document, for counts that are not far from 0."""
    rows, state = fault
    if type(fault) is not tuple or type(rows) is not tuple or len(rows) != len(arrangement):
        return False
    if not all(type(row) is tuple for row in rows) or state not in range(machine.states):
        return False
    loop, split = both_ways(machine, arrangement, count, [change_of(machine, row) for row in rows])
    return loop[state] != split[state]


class ExamplesTest(unittest.TestCase):

    def test_chapter_9(self):
        turns = Machine(2, [(1, 0), (2, 2), (0, 1)])
        self.assertEqual((is_turned_number(turns, 5), is_turned_number(turns, 4), splits_into(turns, (2, 0, 1), 6)),
                         (True, False, True))
        self.assertEqual(
            (is_split_fault(turns, (1, 0), 1, (((0,), (1,)), 0)), split_fault(turns, (1, 0), 5),
             splits_into(turns, (0,), 2)),
            (True, None, True))


class TurnedNumberTest(unittest.TestCase):

    def test_by_brute_force(self):
        for machine in SMALL[:11]:
            for count in range(-7, 8):
                told = all(times(then(one, other), count) == then(times(other, count), times(one, count))
                           for one in changes(machine) for other in changes(machine))
                self.assertIs(is_turned_number(machine, count), told)

    def test_facts(self):
        for machine in SMALL + LARGE + [EXACTLY_400]:
            lot = moduli(machine)
            for count in list(range(-9, 14)) + [BIG, -BIG, BIG - 1]:
                told = is_turned_number(machine, count)
                self.assertIs(told, is_batch_number(machine, count + 1))
                self.assertIs(told, is_batch_number(machine, -count))
                self.assertIs(told, all(count % modulus in (0, modulus - 1) for modulus in lot))
                self.assertIs(told and is_batch_number(machine, count), count % math.prod(lot) == 0)

    def test_where_order_never_matters(self):
        for machine in [TRIVIAL, STILL, PAIR, RING6, KLEIN]:
            for count in [-BIG, -2, -1, 0, 1, 2, BIG]:
                self.assertIs(is_turned_number(machine, count), True)

    def test_counts_that_are_none(self):
        for value in NO_COUNTS:
            self.assertEqual(error_of(is_turned_number, TURNS, value), ("InvalidQuestion", 1), value)
        self.assertIs(is_turned_number(machine=TURNS, count=-1), True)


class SplitsIntoTest(unittest.TestCase):

    def test_by_brute_force(self):
        for machine, most in [(PAIR, 4), (TURNS, 3), (SQUARE, 3), (QUATERNION, 2), (FIVES, 2), (RING6, 3), (KLEIN, 3)]:
            for arrangement in ARRANGEMENTS:
                if len(arrangement) <= most:
                    for count in range(-5, 9):
                        self.assertIs(splits_into(machine, arrangement, count), splits_all(machine, arrangement, count))

    def test_facts(self):
        for machine in SMALL + LARGE:
            whole = math.prod(moduli(machine))
            for count in [-whole, 1 - whole, -1, 0, 1, 2, 3, 5, whole - 1, whole, whole + 1, 2 * whole, BIG]:
                good, turned = is_batch_number(machine, count), is_turned_number(machine, count)
                for arrangement in [(0,), (0, 1), (1, 0), (0, 1, 2), (2, 1, 0), (0, 2, 1), (2, 0, 1), (1, 2, 0), (3, 2, 1, 0),
                                    (0, 1, 3, 2), tuple(range(12)), tuple(range(11, -1, -1)),
                                    (0, 2, 1) + tuple(range(3, 12)), tuple(range(11, 1, -1)) + (0, 1)]:
                    many = len(arrangement)
                    if many == 1:
                        told = True
                    elif arrangement == tuple(range(many)):
                        told = good
                    elif arrangement == tuple(range(many))[::-1]:
                        told = turned
                    else:
                        told = count % whole == 0
                    self.assertIs(splits_into(machine, arrangement, count), told)

    def test_by_name(self):
        self.assertIs(splits_into(machine=TURNS, arrangement=(1, 0), count=-1), True)
        self.assertIs(splits_into(machine=TURNS, arrangement=(1, 0), count=1), False)


class SplitFaultTest(unittest.TestCase):

    def test_told_just_where_there_is_one(self):
        for machine in SMALL + [SQUARE_NINE, THREES_FIVES]:
            for arrangement in ARRANGEMENTS[:12] + [(3, 1, 2, 0), tuple(range(12)), tuple(range(11, -1, -1)),
                                                    (1, 0) + tuple(range(2, 12))]:
                for count in [-5, -1, 0, 1, 2, 3, 4, 6, 10]:
                    fault = split_fault(machine, arrangement, count)
                    self.assertIs(fault is None, splits_into(machine, arrangement, count))
                    if fault is not None:
                        self.assertTrue(is_fault(machine, arrangement, count, fault))
                        self.assertIs(is_split_fault(machine, arrangement, count, fault), True)
                        self.assertEqual(split_fault(machine, arrangement, count), fault)

    def test_thirty_digits(self):
        for count in [BIG + 2, -BIG - 3, 10 ** 29]:
            for arrangement in [(0, 1), (1, 0), (2, 0, 1), tuple(range(11, -1, -1))]:
                fault = split_fault(TURNS, arrangement, count)
                # By 6 the powers hang only on what the count leaves.
                self.assertTrue(is_fault(TURNS, arrangement, count % 6, fault))
                self.assertIs(is_split_fault(TURNS, arrangement, count, fault), True)
        self.assertIsNone(split_fault(machine=EXACTLY_400, arrangement=(1, 2, 0), count=20 * BIG))
        self.assertIsNotNone(split_fault(EXACTLY_400, (1, 2, 0), 20 * BIG + 1))

    def test_one_row_has_none(self):
        for count in [-BIG, -1, 2, BIG]:
            self.assertIsNone(split_fault(TURNS, (0,), count))
            for state in range(3):
                self.assertIs(is_split_fault(TURNS, (0,), count, (((0, 1),), state)), False)

    def test_all_short_rows(self):
        rows = [(), (0,), (1,), (0, 1), (1, 0, 0)]
        for arrangement in [(0, 1), (1, 0), (2, 0, 1), (0, 2, 1)]:
            for count in [-2, 1, 2, 3, 6]:
                for told in product(rows, repeat=len(arrangement)):
                    for state in range(3):
                        self.assertIs(is_split_fault(TURNS, arrangement, count, (told, state)),
                                      is_fault(TURNS, arrangement, count, (told, state)))

    def test_long_rows(self):
        rows = tuple((0, 1) * at + (1,) * (1000 - 2 * at) for at in range(12))
        for state in range(3):
            self.assertIs(is_split_fault(TURNS, tuple(range(12)), 2, (rows, state)),
                          is_fault(TURNS, tuple(range(12)), 2, (rows, state)))

    def test_values_that_are_none(self):
        self.assertIs(is_split_fault(TURNS, (1, 0), 1, (((0,), (1,)), 0)), True)
        for value in oddities() + [0, (), ((), 0), (((0,), (1,)),), (((0,), (1,)), 0, 0), [((0,), (1,)), 0],
                                   ([(0,), (1,)], 0), (([0], (1,)), 0), (((0,), [1]), 0), (((0,), (1,)), 3),
                                   (((0,), (1,)), -1), (((0,), (1,)), False), (((0,), (1,)), 0.0), (((0,), (1,)), None),
                                   (((0,), (2,)), 0), (((-1,), (1,)), 0), (((False,), (1,)), 0), (((0,), (True,)), 0),
                                   ((0, 1), 0), (((0,),), 0), (((0,), (1,), ()), 0), ((), (1,)), ((None, (1,)), 0),
                                   (((0,), (0,)), 0), (((), (1,)), 0)]:
            self.assertIs(is_split_fault(TURNS, (1, 0), 1, value), False, value)
        self.assertIs(is_split_fault(machine=TURNS, arrangement=(1, 0), count=5, value=(((0,), (1,)), 0)), False)


class RefusedTest(unittest.TestCase):

    def test_arrangements_and_counts(self):
        fault = (((0,), (1,)), 0)
        for function, more in [(splits_into, ()), (split_fault, ()), (is_split_fault, (fault,)), (is_split_fault, (None,))]:
            for value in NO_ARRANGEMENTS:
                self.assertEqual(error_of(function, TURNS, value, 2, *more), ("InvalidQuestion", 1), value)
                self.assertEqual(error_of(function, TURNS, value, None, *more), ("InvalidQuestion", 1), value)
            for value in NO_COUNTS:
                self.assertEqual(error_of(function, TURNS, (1, 0), value, *more), ("InvalidQuestion", 2), value)
                self.assertEqual(error_of(function, TURNS, (0,), value, *more), ("InvalidQuestion", 2), value)

    def test_too_many_changes_ahead_of_all_else(self):
        for machine in [OVER_400, HUGE]:
            for function, arguments in [(is_turned_number, (0,)), (is_turned_number, (None,)), (splits_into, ((0,), 1)),
                                        (splits_into, (None, None)), (split_fault, ((1, 0), 0)), (split_fault, (None, 0)),
                                        (is_split_fault, ((1, 0), 1, None)), (is_split_fault, (None, None, None))]:
                self.assertEqual(error_of(function, machine, *arguments), REFUSED)

    def test_the_largest_machines(self):
        self.assertIs(splits_into(EXACTLY_400, (1, 0), 19), True)
        self.assertIs(splits_into(TWENTY, (1, 0), 20), True)
        self.assertIs(splits_into(TWENTY, (1, 0), 4), False)
