"""Points 14 and 15: powers together, changes split."""

import math
import unittest

from batchnumbers.batches import is_batch_number, moduli
from batchnumbers.changes import changes, followed, middle, never_matters, power
from batchnumbers.machines import Machine
from batchnumbers.splitting import go_along, powers, shared, split_change, splits
from tests.helpers import (BIG, EVEN5, EXACTLY_400, FIVES, HUGE, KLEIN, OVER_400, QUATERNION, RING6, SMALL, SQUARE,
                           SQUARE_NINE, SQUARE_PAIR, THREES, TRIVIAL, TURNS, TURNS_FIVES, TWENTY, error_of, oddities,
                           then, times)

REFUSED = ("Refused", 0)
NO_CHANGES = oddities() + [0, (), (0, 1), (0, 1, 2, 2), [0, 1, 2, 3], (0, True, 2, 3), (0.0, 1, 2, 3), (0, 1, 2, [3]),
                           (0, 2, 1, 3), (1, 0, 2, 3), (1, 2, 0, 3)]


def set_of_powers(machine, count):
    """All powers with this count, step by step."""
    return {times(change, count) for change in changes(machine)}


class ExamplesTest(unittest.TestCase):

    def test_chapter_5(self):
        square = Machine(2, [(1, 0), (2, 3), (3, 2), (0, 1)])
        self.assertEqual(
            (powers(square, 2), go_along(square, 4, 3), len(powers(square, 5)), shared(square, 4)),
            (((0, 1, 2, 3), (2, 3, 0, 1)), True, 8, ((0, 1, 2, 3),)))
        self.assertEqual(
            (split_change(square, 5, (1, 2, 3, 0)), splits(square, 4, (1, 0, 3, 2))),
            (((1, 2, 3, 0), (0, 1, 2, 3)), (((0, 1, 2, 3), (1, 0, 3, 2)),)))


class PowersTest(unittest.TestCase):

    def test_powers(self):
        for machine in SMALL:
            for count in range(-5, 9):
                told = powers(machine, count)
                self.assertIs(type(told), tuple)
                self.assertEqual(list(told), sorted(set_of_powers(machine, count)))
        self.assertEqual(powers(machine=TURNS, count=1), changes(TURNS))
        self.assertEqual(powers(TURNS, BIG), ((0, 1, 2),))
        self.assertEqual(powers(TURNS, 1 - BIG), changes(TURNS))

    def test_go_along(self):
        for machine in [TRIVIAL, TURNS, SQUARE, QUATERNION, THREES, TWENTY, SQUARE_PAIR]:
            for one in range(-3, 7):
                for other in range(-2, 7):
                    told = all(then(first, second) == then(second, first)
                               for first in set_of_powers(machine, one) for second in set_of_powers(machine, other))
                    self.assertIs(go_along(machine, one, other), told)
        self.assertIs(go_along(machine=TURNS, one=6, other=1), True)
        self.assertIs(go_along(TURNS, BIG, 1), True)
        self.assertIs(go_along(TURNS, 1 - BIG, BIG + 1), False)

    def test_counts_that_are_none(self):
        for value in oddities() + [[1], (1,)]:
            self.assertEqual(error_of(powers, TURNS, value), ("InvalidQuestion", 1), value)
            self.assertEqual(error_of(go_along, TURNS, value, 1), ("InvalidQuestion", 1), value)
            self.assertEqual(error_of(go_along, TURNS, 1, value), ("InvalidQuestion", 2), value)
            self.assertEqual(error_of(go_along, TURNS, value, value), ("InvalidQuestion", 1), value)
            self.assertEqual(error_of(split_change, TURNS, value, (0, 1, 2)), ("InvalidQuestion", 1), value)
            self.assertEqual(error_of(splits, TURNS, value, (0, 1, 2)), ("InvalidQuestion", 1), value)
            self.assertEqual(error_of(shared, TURNS, value), ("InvalidQuestion", 1), value)

    def test_too_many_changes_ahead_of_all_else(self):
        for machine in [OVER_400, HUGE]:
            for function, arguments in [(powers, (1,)), (powers, (None,)), (go_along, (0, 0)), (go_along, (None, None)),
                                        (split_change, (0, tuple(range(machine.states)))),
                                        (split_change, (None, None)), (splits, (1, None)), (splits, (None, None)),
                                        (shared, (0,)), (shared, (None,))]:
                self.assertEqual(error_of(function, machine, *arguments), REFUSED)

    def test_the_largest_machine(self):
        self.assertEqual(len(powers(EXACTLY_400, 1)), 400)
        self.assertIs(go_along(EXACTLY_400, 1, 1), False)
        self.assertIs(go_along(EXACTLY_400, 20, 1), True)
        self.assertEqual(len(splits(EXACTLY_400, 21, changes(EXACTLY_400)[-1])), 1)


class SplitTest(unittest.TestCase):

    def test_split_change(self):
        for machine in SMALL + [SQUARE_NINE]:
            for count in range(-4, 14):
                if is_batch_number(machine, count):
                    for change in changes(machine):
                        pair = split_change(machine, count, change)
                        self.assertEqual(pair, (power(change, count), power(change, 1 - count)))
                        self.assertIs(type(pair), tuple)
                        self.assertEqual(followed(*pair), change)

    def test_splits(self):
        for machine in [TRIVIAL, TURNS, SQUARE, QUATERNION, FIVES, THREES, RING6, KLEIN, SQUARE_PAIR]:
            for count in [count for count in range(-6, 14) if is_batch_number(machine, count)]:
                first, second = set_of_powers(machine, count), set_of_powers(machine, count - 1)
                both = first & second
                self.assertEqual(shared(machine, count), tuple(sorted(both)))
                self.assertLessEqual(both, set(middle(machine)))
                for change in changes(machine):
                    told = splits(machine, count, change)
                    self.assertEqual(list(told), sorted((one, other) for one in first for other in second
                                                        if then(one, other) == change))
                    self.assertIn(split_change(machine, count, change), told)
                    self.assertEqual(len(told), len(both))

    def test_far_counts(self):
        change = (1, 2, 0)
        self.assertEqual(split_change(TURNS, BIG + 1, change), (change, (0, 1, 2)))
        self.assertEqual(split_change(TURNS, -BIG, change), ((0, 1, 2), change))
        self.assertEqual(splits(TURNS, -BIG, change), (((0, 1, 2), change),))
        self.assertEqual(shared(KLEIN, 1 - BIG), ((0, 1, 2, 3),))
        self.assertEqual(shared(KLEIN, BIG), ((0, 1, 2, 3),))

    def test_arguments_by_name(self):
        self.assertEqual(split_change(machine=TURNS, count=0, change=(0, 1, 2)), ((0, 1, 2), (0, 1, 2)))
        self.assertEqual(splits(machine=TURNS, count=0, change=(1, 2, 0)), (((0, 1, 2), (1, 2, 0)),))
        self.assertEqual(shared(machine=TURNS, count=0), ((0, 1, 2),))

    def test_no_batch_number(self):
        for count in [2, 3, -1, -2, BIG, 10 ** 29 + 2]:
            self.assertEqual(is_batch_number(SQUARE, count), count % 4 < 2)
            if count % 4 > 1:
                self.assertEqual(error_of(split_change, SQUARE, count, (0, 1, 2, 3)), ("Refused", 1))
                self.assertEqual(error_of(splits, SQUARE, count, (0, 1, 2, 3)), ("Refused", 1))
                self.assertEqual(error_of(shared, SQUARE, count), ("Refused", 1))
                # From left to right: the count stands ahead of the change.
                self.assertEqual(error_of(split_change, SQUARE, count, None), ("Refused", 1))
                self.assertEqual(error_of(splits, SQUARE, count, None), ("Refused", 1))

    def test_no_change_of_a_row(self):
        for value in NO_CHANGES:
            self.assertEqual(error_of(split_change, SQUARE, 4, value), ("InvalidChange", 0), value)
            self.assertEqual(error_of(splits, SQUARE, 5, value), ("InvalidChange", 0), value)
            self.assertEqual(error_of(split_change, SQUARE, None, value), ("InvalidQuestion", 1), value)
            self.assertEqual(error_of(splits, SQUARE, True, value), ("InvalidQuestion", 1), value)


class FactsTest(unittest.TestCase):

    def test_other_batch_numbers(self):
        for machine in SMALL + [SQUARE_NINE, TURNS_FIVES]:
            good = [count for count in range(-14, 15) if is_batch_number(machine, count)]
            for one in good:
                self.assertTrue(is_batch_number(machine, 1 - one))
                for other in good:
                    self.assertTrue(is_batch_number(machine, one * other))

    def test_powers_of_batch_numbers_go_along(self):
        for machine in SMALL + [SQUARE_NINE, EVEN5]:
            for count in [count for count in range(-14, 15) if is_batch_number(machine, count)]:
                self.assertIs(go_along(machine, count, count - 1), True)
                for kind in [count, count - 1]:
                    of_kind = powers(machine, kind)
                    if len(of_kind) < 30:
                        self.assertLessEqual({then(one, other) for one in of_kind for other in of_kind}, set(of_kind))

    def test_neighbours(self):
        for machine in SMALL + [SQUARE_NINE]:
            inner = set(middle(machine))
            whole = math.prod(moduli(machine))
            for count in range(-whole - 1, whole + 1):
                near = [is_batch_number(machine, count + step) for step in range(3)]
                self.assertIs(near[0] and near[1], near[0] and set(powers(machine, count)) <= inner)
                if all(near) or is_batch_number(machine, 2):
                    self.assertIs(never_matters(machine), True)
