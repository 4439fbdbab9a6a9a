"""Points 6, 7 and 8: changes, one after another, changing places."""

import math
import unittest
from itertools import product

from batchnumbers.changes import (back, change_of, change_places, changes, checked_change, followed, loop, middle,
                                  never_matters, order, orders, power, row_for, split_loop)
from batchnumbers.machines import Machine
from tests.helpers import (BIG, EIGHTS, EVEN4, EXACTLY_400, FIVES, HUGE, KLEIN, LARGE, OVER_400, QUATERNION, RING6,
                           SMALL, SQUARE, STILL, THREES, TRIVIAL, TURNS, TWENTY, TWO, all_changes, beside, error_of,
                           oddities, of_changes, of_cycles, then, times)

REFUSED = ("Refused", 0)
NO_CHANGE = ("InvalidChange", 0)
NO_CHANGES_OF_THREE = oddities() + [0, 3, (), (0, 1), (0, 1, 2, 3), (0, 1, 1), (0, 1, 3), (-1, 0, 1), (1, 2, 3),
                                    (0, True, 2), (False, 1, 2), (0.0, 1, 2), (0, 1, "2"), (0, 1, [2]), (0, 1, None),
                                    [0, 1, 2], (0, (1,), 2), ((0, 1, 2),)]
NO_CHANGES_AT_ALL = [value for value in NO_CHANGES_OF_THREE if value not in [(0, 1), (0, 1, 2, 3)]]


class ExamplesTest(unittest.TestCase):

    def test_chapter_3(self):
        turns = Machine(2, [(1, 0), (2, 2), (0, 1)])
        self.assertEqual(
            (len(changes(turns)), orders(turns), middle(turns), row_for(turns, (1, 0, 2)), never_matters(turns)),
            (6, 6, ((0, 1, 2),), (1, 0), False))
        self.assertEqual(
            (loop((1, 2, 0), (0, 2, 1), 2), split_loop((1, 2, 0), (0, 2, 1), 2), power((1, 2, 0), -1)),
            ((0, 1, 2), (2, 0, 1), (2, 0, 1)))


class ChangesTest(unittest.TestCase):

    def test_change_of_a_row(self):
        self.assertEqual(change_of(TURNS, ()), (0, 1, 2))
        self.assertEqual(change_of(TURNS, [0]), (1, 2, 0))
        self.assertEqual(change_of(TURNS, (1,)), (0, 2, 1))
        # Command 0 comes first: 0 goes to 1, then to 2.
        self.assertEqual(change_of(TURNS, (0, 1)), (2, 1, 0))
        self.assertEqual(change_of(TURNS, (1, 0)), (1, 0, 2))
        self.assertEqual(change_of(HUGE, [0] * 1000), times(change_of(HUGE, [0]), 1000 % 16))

    def test_change_of_refuses_what_is_no_row(self):
        self.assertEqual(error_of(change_of, TURNS, (0, 2, True)), ("InvalidRow", 1))
        self.assertEqual(error_of(change_of, TURNS, (0, True, 2)), ("InvalidRow", 1))
        for value in oddities() + [0]:
            self.assertEqual(error_of(change_of, TURNS, value), ("InvalidRow", 0), value)

    def test_changes_are_those_of_all_rows(self):
        for machine in SMALL:
            self.assertEqual(changes(machine), all_changes(machine))
            short = {change_of(machine, row) for many in range(4) for row in product(range(machine.commands),
                                                                                     repeat=many)}
            self.assertLessEqual(short, set(changes(machine)))

    def test_changes_are_ascending_tuples(self):
        for machine in SMALL + LARGE:
            found = changes(machine)
            self.assertIs(type(found), tuple)
            self.assertEqual(list(found), sorted(set(found)))
            self.assertEqual({type(change) for change in found}, {tuple})

    def test_the_limit_of_400(self):
        self.assertEqual(len(changes(EXACTLY_400)), 400)
        self.assertEqual(orders(EXACTLY_400), 20)
        self.assertEqual(middle(EXACTLY_400), (tuple(range(10)),))
        self.assertEqual(row_for(EXACTLY_400, tuple(range(10))), ())
        # Five times 42 changes twice over: 420 of them.
        fives = of_changes(of_cycles(5, (0, 1, 2, 3, 4)), of_cycles(5, (1, 4), (2, 3)))
        sevens = of_changes(of_cycles(7, (0, 1, 2, 3, 4, 5, 6)), of_cycles(7, (1, 3, 2, 6, 4, 5)))
        self.assertEqual(len(changes(sevens)), 42)
        for machine in [beside(fives, sevens), OVER_400, HUGE]:
            self.assertEqual(error_of(changes, machine), REFUSED)
            self.assertEqual(error_of(orders, machine), REFUSED)
            self.assertEqual(error_of(middle, machine), REFUSED)
            self.assertEqual(error_of(row_for, machine, tuple(range(machine.states))), REFUSED)
            # Refused ahead of the change that is none.
            self.assertEqual(error_of(row_for, machine, None), REFUSED)

    def test_just_one_more_than_400(self):
        ring = of_changes(of_cycles(400, tuple(range(400))))
        self.assertEqual(len(changes(ring)), 400)
        self.assertEqual(orders(ring), 400)
        ring = of_changes(of_cycles(401, tuple(range(401))))
        self.assertEqual(error_of(changes, ring), REFUSED)

    def test_many_changes_do_not_bar_what_needs_none_of_them(self):
        self.assertIs(never_matters(HUGE), False)
        self.assertEqual(change_of(HUGE, (1,))[:3], (1, 0, 2))
        rings = of_changes(of_cycles(16, (0, 1, 2, 3, 4, 5, 6, 7, 8)), of_cycles(16, (9, 10, 11, 12, 13, 14, 15)))
        self.assertIs(never_matters(beside(rings, rings)), True)

    def test_row_for_tells_the_first_of_the_shortest(self):
        for machine in [TRIVIAL, STILL, TURNS, SQUARE, TWO, RING6, KLEIN, QUATERNION, EVEN4]:
            first = {}
            many = 0
            while len(first) < len(changes(machine)):
                for row in product(range(machine.commands), repeat=many):
                    first.setdefault(change_of(machine, row), row)
                many += 1
            for change in changes(machine):
                self.assertEqual(row_for(machine, change), first[change])

    def test_row_for_refuses_what_is_no_change_of_a_row(self):
        for value in NO_CHANGES_OF_THREE:
            self.assertEqual(error_of(row_for, TURNS, value), NO_CHANGE, value)
        # All states once each, but no row does it.
        self.assertEqual(error_of(row_for, SQUARE, (0, 2, 1, 3)), NO_CHANGE)
        self.assertEqual(error_of(row_for, EVEN4, (1, 0, 2, 3)), NO_CHANGE)
        self.assertEqual(error_of(row_for, STILL, (1, 0, 2)), NO_CHANGE)

    def test_checked_change(self):
        for value in [(0,), (1, 0), (2, 0, 1), tuple(range(16))]:
            self.assertEqual(checked_change(len(value), value), value)
        self.assertEqual(checked_change(states=2, value=(1, 0)), (1, 0))
        for value in NO_CHANGES_OF_THREE:
            self.assertEqual(error_of(checked_change, 3, value), NO_CHANGE, value)
        self.assertEqual(error_of(checked_change, 1, ()), NO_CHANGE)


class FollowedTest(unittest.TestCase):

    def test_followed_does_the_first_one_first(self):
        self.assertEqual(followed((1, 2, 0), (0, 2, 1)), (2, 1, 0))
        self.assertEqual(followed((0, 2, 1), (1, 2, 0)), (1, 0, 2))
        self.assertEqual(followed(one=(1, 0), other=(0, 1)), (1, 0))
        for one in changes(EVEN4):
            for other in changes(EVEN4):
                self.assertEqual(followed(one, other), then(one, other))

    def test_back(self):
        self.assertEqual(back((1, 2, 0)), (2, 0, 1))
        for machine in SMALL:
            idle = tuple(range(machine.states))
            for change in changes(machine):
                self.assertEqual(followed(change, back(change)), idle)
                self.assertEqual(followed(back(change), change), idle)

    def test_power(self):
        for machine in [TRIVIAL, TURNS, SQUARE, TWO, FIVES]:
            for change in changes(machine):
                for count in range(-13, 14):
                    self.assertEqual(power(change, count), times(change, count))
        self.assertEqual(power(change=(1, 0), count=3), (1, 0))

    def test_power_with_thirty_digits(self):
        change = of_cycles(16, (0, 1, 2), (3, 4, 5, 6, 7), (8, 9, 10, 11, 12, 13, 14))
        self.assertEqual(order(change), 105)
        for count in [BIG, -BIG, 10 ** 29, -10 ** 30 + 1]:
            self.assertEqual(power(change, count), times(change, count % 105))

    def test_order(self):
        self.assertEqual(order((0,)), 1)
        self.assertEqual(order((1, 0, 3, 4, 2)), 6)
        for machine in SMALL:
            idle = tuple(range(machine.states))
            for change in changes(machine):
                least = order(change)
                self.assertEqual([count for count in range(1, least + 1) if times(change, count) == idle], [least])

    def test_orders(self):
        self.assertEqual([orders(machine) for machine in [TRIVIAL, TURNS, SQUARE, TWO, EIGHTS, TWENTY, THREES]],
                         [1, 6, 4, 6, 8, 20, 3])
        for machine in SMALL:
            self.assertEqual(orders(machine), math.lcm(*[order(change) for change in changes(machine)]))

    def test_a_power_hangs_on_what_the_count_leaves(self):
        for change in changes(TWENTY):
            for count in range(-9, 10):
                self.assertEqual(power(change, count), power(change, count % order(change)))


class PlacesTest(unittest.TestCase):

    def test_change_places(self):
        self.assertIs(change_places((1, 2, 0), (0, 2, 1)), False)
        self.assertIs(change_places((1, 2, 0), (2, 0, 1)), True)
        self.assertIs(change_places(one=(0, 1), other=(1, 0)), True)
        for one in changes(SQUARE):
            for other in changes(SQUARE):
                self.assertIs(change_places(one, other), then(one, other) == then(other, one))

    def test_middle(self):
        for machine in SMALL:
            group = all_changes(machine)
            self.assertEqual(middle(machine), tuple(one for one in group
                                                    if all(then(one, other) == then(other, one) for other in group)))

    def test_never_matters(self):
        for machine in SMALL:
            told = never_matters(machine)
            self.assertIs(told, middle(machine) == changes(machine))
        self.assertIs(never_matters(TWO), True)
        self.assertIs(never_matters(SQUARE), False)

    def test_loops(self):
        for count in list(range(-5, 6)) + [BIG, -BIG]:
            for one, other in product(changes(TURNS), repeat=2):
                left = count % 6
                self.assertEqual(loop(one, other, count), times(then(one, other), left))
                self.assertEqual(split_loop(one, other, count), then(times(one, left), times(other, left)))
        self.assertEqual(loop(one=(1, 0), other=(0, 1), count=1), split_loop(one=(1, 0), other=(0, 1), count=1))


class RefusedChangesTest(unittest.TestCase):

    def test_single_changes(self):
        for value in NO_CHANGES_AT_ALL:
            self.assertEqual(error_of(back, value), NO_CHANGE, value)
            self.assertEqual(error_of(order, value), NO_CHANGE, value)
            self.assertEqual(error_of(power, value, 2), NO_CHANGE, value)

    def test_two_changes(self):
        good = (0, 2, 1)
        for value in NO_CHANGES_OF_THREE:
            for function, more in [(followed, ()), (change_places, ()), (loop, (2,)), (split_loop, (2,))]:
                self.assertEqual(error_of(function, value, good, *more), NO_CHANGE, value)
                self.assertEqual(error_of(function, good, value, *more), NO_CHANGE, value)
                self.assertEqual(error_of(function, value, None, *more), NO_CHANGE, value)


class KeptTest(unittest.TestCase):

    def test_equal_questions_get_equal_answers(self):
        for machine in SMALL:
            same = Machine(machine.commands, [list(entry) for entry in machine.steps])
            for function in [changes, middle, orders, never_matters]:
                self.assertEqual(function(machine), function(same))
                self.assertEqual(function(machine), function(machine))
            for change in changes(machine):
                self.assertEqual(row_for(machine, change), row_for(same, change))

    def test_a_row_that_is_passed_stays_as_it_is(self):
        row = [0, 1, 0]
        change_of(TURNS, row)
        self.assertEqual(row, [0, 1, 0])
