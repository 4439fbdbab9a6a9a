"""Point 42: machines side by side."""

import unittest

from batchnumbers.batches import moduli
from batchnumbers.changes import change_of, changes
from batchnumbers.knotted import merged
from batchnumbers.machines import Machine
from batchnumbers.rooms import room_machine, rooms
from batchnumbers.sides import in_step, paired, side_by_side
from tests.helpers import (BIG, FIVES, HUGE, OVER_400, PAIR, QUATERNION, RING4, SMALL, SQUARE, STILL, THREES, TRIVIAL, TURNS,
                           TWENTY, TWENTY_ONE, TWO, beside, error_of)

COUPLES = [(one, other) for one in SMALL for other in (TRIVIAL, PAIR, STILL, TURNS, SQUARE, FIVES, TWO)]
# With few enough changes to tell the moduli of both together.
FEW = [(one, other) for one in (TRIVIAL, PAIR, STILL, TURNS, SQUARE, FIVES, TWO, RING4, QUATERNION, TWENTY, TWENTY_ONE, THREES)
       for other in (TRIVIAL, PAIR, TURNS, SQUARE, FIVES)]


def step(machine, state, command):
    return machine.steps[state][command]


class ExamplesTest(unittest.TestCase):

    def test_chapter_11(self):
        turns, square = Machine(2, [(1, 0), (2, 2), (0, 1)]), Machine(2, [(1, 0), (2, 3), (3, 2), (0, 1)])
        self.assertEqual(
            (moduli(side_by_side(turns, square)), rooms(in_step(turns, square)), len(changes(in_step(turns, square)))),
            ((12,), ((0, 1, 2), (3, 4, 5, 6)), 24))


class SideBySideTest(unittest.TestCase):

    def test_states_and_commands_of_both(self):
        for one, other in COUPLES:
            told = side_by_side(one, other)
            self.assertEqual((told.commands, told.states), (one.commands + other.commands, one.states + other.states))
            for command in range(one.commands):
                for state in range(one.states):
                    self.assertEqual(step(told, state, command), step(one, state, command))
                for state in range(one.states, told.states):
                    self.assertEqual(step(told, state, command), state)
            for command in range(other.commands):
                for state in range(other.states):
                    self.assertEqual(step(told, one.states + state, one.commands + command),
                                     one.states + step(other, state, command))
                for state in range(one.states):
                    self.assertEqual(step(told, state, one.commands + command), state)
            self.assertEqual(told, beside(one, other))
            self.assertIs(type(told), Machine)

    def test_known_ones(self):
        self.assertEqual(side_by_side(one=PAIR, other=TRIVIAL).steps, ((1, 0), (0, 1), (2, 2)))
        self.assertEqual(side_by_side(TRIVIAL, PAIR).steps, ((0, 0), (1, 2), (2, 1)))
        self.assertEqual(side_by_side(HUGE, OVER_400).states, 22)


class PairedTest(unittest.TestCase):

    def test_each_state_is_one_of_each(self):
        for one, other in COUPLES:
            told = paired(one, other)
            self.assertEqual((told.commands, told.states), (one.commands + other.commands, one.states * other.states))
            for first in range(one.states):
                for second in range(other.states):
                    state = first * other.states + second
                    for command in range(one.commands):
                        self.assertEqual(step(told, state, command), step(one, first, command) * other.states + second)
                    for command in range(other.commands):
                        self.assertEqual(step(told, state, one.commands + command),
                                         first * other.states + step(other, second, command))

    def test_known_ones(self):
        self.assertEqual(paired(one=PAIR, other=PAIR).steps, ((2, 1), (3, 0), (0, 3), (1, 2)))
        self.assertEqual(paired(PAIR, TRIVIAL).steps, ((1, 0), (0, 1)))
        self.assertEqual(paired(HUGE, HUGE).states, 256)


class InStepTest(unittest.TestCase):

    def test_each_command_does_both(self):
        for one, other in COUPLES:
            if one.commands == other.commands:
                told = in_step(one, other)
                self.assertEqual((told.commands, told.states), (one.commands, one.states + other.states))
                for command in range(one.commands):
                    change = change_of(told, (command,))
                    self.assertEqual(change[:one.states], change_of(one, (command,)))
                    self.assertEqual(change[one.states:],
                                     tuple(one.states + state for state in change_of(other, (command,))))
                self.assertEqual(room_machine(told, tuple(range(one.states))), one)
                self.assertEqual(room_machine(told, tuple(range(one.states, told.states))), other)

    def test_known_ones(self):
        self.assertEqual(in_step(one=PAIR, other=PAIR).steps, ((1,), (0,), (3,), (2,)))
        self.assertEqual(in_step(TRIVIAL, PAIR).steps, ((0,), (2,), (1,)))
        self.assertEqual(len(changes(in_step(TURNS, TURNS))), 6)
        self.assertEqual(change_of(in_step(HUGE, OVER_400), (0,) * 6)[16:], tuple(range(16, 22)))

    def test_unlike_numbers_of_commands(self):
        for one, other in COUPLES:
            told = None if one.commands == other.commands else ("Refused", 1)
            self.assertEqual(error_of(in_step, one, other), told)
            self.assertEqual(error_of(in_step, other, one), told)


class FactsTest(unittest.TestCase):

    def test_moduli_are_merged(self):
        for one, other in FEW:
            told = merged(moduli(one) + moduli(other))
            if len(changes(one)) * len(changes(other)) <= 400:
                self.assertEqual(moduli(side_by_side(one, other)), told)
                self.assertEqual(moduli(paired(one, other)), told)
            if one.commands == other.commands:
                self.assertEqual(moduli(in_step(one, other)), told)

    def test_numbers_of_changes(self):
        for one, other in FEW:
            many = len(changes(one)) * len(changes(other))
            if many <= 400:
                self.assertEqual(len(changes(side_by_side(one, other))), many)
                self.assertEqual(len(changes(paired(one, other))), many)
            if one.commands == other.commands:
                self.assertLessEqual(len(changes(in_step(one, other))), many)

    def test_the_machines_stay_as_they_are(self):
        for one, other in [(TURNS, SQUARE), (SQUARE, TURNS)]:
            before = one.steps, other.steps
            for function in [side_by_side, paired, in_step]:
                self.assertEqual(function(one, other), function(one, other))
            self.assertEqual((one.steps, other.steps), before)
        self.assertNotEqual(side_by_side(TURNS, SQUARE), side_by_side(SQUARE, TURNS))
        self.assertNotEqual(in_step(TURNS, SQUARE), BIG)
