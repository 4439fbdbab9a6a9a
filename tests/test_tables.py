"""Tables, on which the points about batch numbers rest."""

import unittest
from itertools import product

from batchnumbers.changes import change_of, changes, order, orders, power, row_for
from batchnumbers.errors import Refused
from batchnumbers.machines import Machine
from batchnumbers.tables import Table, table_of
from tests.helpers import (EVEN4, EXACTLY_400, FIVES, HUGE, OVER_400, QUATERNION, SMALL, SQUARE, TRIVIAL, TURNS, TWENTY, then,
                           times)


class TableTest(unittest.TestCase):

    def test_all_changes_with_their_shortest_rows(self):
        for machine in SMALL + [EXACTLY_400]:
            table = table_of(machine)
            self.assertEqual(tuple(sorted(table.changes)), changes(machine))
            self.assertEqual(table.changes[0], tuple(range(machine.states)))
            for change, row in zip(table.changes, table.rows):
                self.assertEqual(change_of(machine, row), change)
            self.assertEqual(table.rows[-1], row_for(machine, table.changes[-1]))

    def test_too_many_changes(self):
        for machine in [OVER_400, HUGE]:
            with self.assertRaises(Refused):
                table_of(machine)

    def test_no_makers(self):
        table = Table(3, [])
        self.assertEqual((table.changes, table.rows, table.powers(7), table.common_order()), ([(0, 1, 2)], [()], [0], 1))
        self.assertIs(table.splits(2), True)

    def test_walks(self):
        for machine in [TRIVIAL, TURNS, SQUARE, QUATERNION]:
            table = table_of(machine)
            for start, change in enumerate(table.changes):
                for row in product(range(machine.commands), repeat=3):
                    self.assertEqual(table.changes[table.walk(start, row)], then(change, change_of(machine, row)))

    def test_powers_and_orders(self):
        for machine in SMALL:
            table = table_of(machine)
            self.assertEqual(table.common_order(), orders(machine))
            for count in range(-7, 8):
                self.assertEqual([table.changes[number] for number in table.powers(count)],
                                 [power(change, count) for change in table.changes])
            for number, change in enumerate(table.changes):
                self.assertEqual(table.order(number), order(change))
                self.assertEqual(table.first_powers(number, 9), [times(change, count) for count in range(9)])

    def test_faults_are_of_the_makers(self):
        for machine in [TURNS, SQUARE, FIVES, TWENTY, EVEN4]:
            table = table_of(machine)
            for count in range(-9, 10):
                fault = table.fault(count)
                self.assertIs(table.splits(count), fault is None)
                if fault is not None:
                    number, index = fault
                    one, other = table.changes[number], change_of(machine, (index,))
                    self.assertNotEqual(times(then(one, other), count), then(times(one, count), times(other, count)))

    def test_commands_that_are_alike_or_idle(self):
        machine = Machine(4, [(1, 0, 1, 0), (2, 2, 2, 1), (0, 1, 0, 2)])
        for count in range(-6, 13):
            self.assertIs(table_of(machine).splits(count), table_of(TURNS).splits(count))
