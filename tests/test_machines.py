"""Points 1, 2 and 5: kinds of values, machines and rows."""

import unittest

from batchnumbers.machines import Machine, checked_row
from tests.helpers import SMALL, TURNS, error_of, oddities


def bad(at):
    return "InvalidMachine", at


class MachineTest(unittest.TestCase):

    def test_attributes(self):
        machine = Machine(2, [[1, 0], (2, 2), [0, 1]])
        self.assertEqual((machine.commands, machine.states), (2, 3))
        self.assertEqual(machine.steps, ((1, 0), (2, 2), (0, 1)))
        self.assertIs(type(machine.steps), tuple)
        self.assertEqual([type(entry) for entry in machine.steps], [tuple] * 3)

    def test_arguments_by_name(self):
        self.assertEqual(Machine(commands=1, steps=((0,),)).states, 1)

    def test_lists_and_tuples_make_equal_machines(self):
        self.assertEqual(Machine(2, ([1, 0], [2, 2], [0, 1])), Machine(2, [(1, 0), (2, 2), (0, 1)]))
        self.assertFalse(Machine(2, ([1, 0], [2, 2], [0, 1])) != Machine(2, [(1, 0), (2, 2), (0, 1)]))

    def test_unlike_machines_are_not_equal(self):
        for at, one in enumerate(SMALL):
            for to, other in enumerate(SMALL):
                self.assertIs(one == other, at == to)

    def test_a_machine_equals_nothing_else(self):
        for value in oddities() + [TURNS.steps, (2, TURNS.steps), 2, [2, 3, TURNS.steps]]:
            self.assertFalse(TURNS == value)
            self.assertFalse(value == TURNS)
            self.assertTrue(TURNS != value)

    def test_later_changes_of_the_lists_have_no_effect(self):
        entry = [1, 0]
        steps = [entry, [2, 2], [0, 1]]
        machine = Machine(2, steps)
        entry[0] = 7
        steps.append([3, 3])
        self.assertEqual(machine, TURNS)
        self.assertEqual(machine.steps, ((1, 0), (2, 2), (0, 1)))
        self.assertEqual(machine.states, 3)

    def test_the_arguments_stay_as_they_are(self):
        steps = [[1, 0], [2, 2], [0, 1]]
        Machine(2, steps)
        self.assertEqual(steps, [[1, 0], [2, 2], [0, 1]])

    def test_commands_that_are_none(self):
        for commands in oddities() + [0, -1, [1], (1,)]:
            self.assertEqual(error_of(Machine, commands, [(0,)]), bad(0), commands)

    def test_steps_that_are_no_sequence_or_empty(self):
        for steps in oddities() + [0, 3, [], ()]:
            self.assertEqual(error_of(Machine, 1, steps), bad(1), steps)

    def test_the_first_entry_that_is_none(self):
        for entry in oddities() + [0, (), (0,), (0, 1, 0), (0, 2), (-1, 0), (True, 0), (0, False), (0.0, 1), [0, "1"]]:
            self.assertEqual(error_of(Machine, 2, [entry, (1, 1)]), bad(2), entry)
            self.assertEqual(error_of(Machine, 2, [(0, 0), entry]), bad(3), entry)
            self.assertEqual(error_of(Machine, 2, [entry, entry]), bad(2), entry)

    def test_the_first_command_that_leads_two_states_to_the_same_one(self):
        self.assertEqual(error_of(Machine, 1, [(0,), (0,)]), bad(4))
        self.assertEqual(error_of(Machine, 2, [(0, 1), (1, 1)]), bad(5))
        self.assertEqual(error_of(Machine, 2, [(1, 1), (1, 1)]), bad(4))
        self.assertEqual(error_of(Machine, 3, [(0, 1, 2), (1, 2, 0), (2, 0, 0)]), bad(7))

    def test_two_things_wrong(self):
        self.assertEqual(error_of(Machine, 0, []), bad(0))
        self.assertEqual(error_of(Machine, True, None), bad(0))
        self.assertEqual(error_of(Machine, "2", [(0, 0), (0, 0)]), bad(0))
        # The commands lead together, but a later entry is none.
        self.assertEqual(error_of(Machine, 1, [(0,), (0,), (3,)]), bad(4))
        self.assertEqual(error_of(Machine, 1, [(0,), (0,), 3]), bad(4))
        self.assertEqual(error_of(Machine, 2, [(0, 0), (5, 0), 3]), bad(3))

    def test_a_huge_number_of_commands_is_no_trouble(self):
        self.assertEqual(error_of(Machine, 10 ** 30, [(0,)]), bad(2))


class RowTest(unittest.TestCase):

    def test_rows(self):
        self.assertEqual(checked_row(TURNS, [0, 1, 1]), (0, 1, 1))
        self.assertEqual(checked_row(TURNS, (1,)), (1,))
        self.assertEqual(checked_row(TURNS, []), ())
        self.assertIs(type(checked_row(TURNS, [0])), tuple)
        self.assertEqual(checked_row(machine=TURNS, value=[1] * 1000), (1,) * 1000)

    def test_a_row_is_not_the_list_that_was_passed(self):
        value = [0, 1]
        row = checked_row(TURNS, value)
        value[0] = 1
        self.assertEqual(row, (0, 1))

    def test_no_sequence(self):
        for value in oddities() + [0, 1, -1]:
            self.assertEqual(error_of(checked_row, TURNS, value), ("InvalidRow", 0), value)

    def test_the_first_entry_that_is_no_command(self):
        for entry in oddities() + [2, -1, (0,), [0], ()]:
            self.assertEqual(error_of(checked_row, TURNS, [entry]), ("InvalidRow", 0), entry)
            self.assertEqual(error_of(checked_row, TURNS, (0, 1, entry, 0, entry)), ("InvalidRow", 2), entry)
