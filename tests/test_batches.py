"""Points 10 and 11: batch numbers, batch faults and moduli."""

import math
import unittest
from itertools import combinations

from batchnumbers.batches import batch_fault, is_batch_fault, is_batch_number, moduli
from batchnumbers.changes import change_of, changes, loop, middle, never_matters, orders, power, split_loop
from batchnumbers.machines import Machine
from batchnumbers.rests import fits, is_lot
from tests.helpers import (BIG, EIGHTS, EVEN4, EXACTLY_400, FIVES, HUGE, KLEIN, LARGE, OVER_400, QUATERNION, RING6,
                           SHIFTED, SMALL, SQUARE, SQUARE_NINE, SQUARE_TWENTY_ONE, STILL, THREES, THREES_FIVES, TRIVIAL,
                           TURNS, TURNS_FIVES, TWENTY, TWENTY_ONE, all_changes, error_of, oddities, splits_all)

REFUSED = ("Refused", 0)


def is_fault(machine, count, fault):
    """Whether this is a batch fault, by the words of the document."""
    if type(fault) is not tuple or len(fault) != 3:
        return False
    one, other, state = fault
    if type(one) is not tuple or type(other) is not tuple:
        return False
    first, second = change_of(machine, one), change_of(machine, other)
    return loop(first, second, count)[state] != split_loop(first, second, count)[state]


class ExamplesTest(unittest.TestCase):

    def test_chapter_4(self):
        turns = Machine(2, [(1, 0), (2, 2), (0, 1)])
        self.assertEqual(
            (moduli(turns), is_batch_number(turns, -5), is_batch_number(turns, 2),
             is_batch_fault(turns, 2, ((0,), (1,), 0))),
            ((6,), True, False, True))
        self.assertEqual(moduli(Machine(1, [(1,), (0,)])), ())


class BatchNumberTest(unittest.TestCase):

    def test_by_brute_force(self):
        for machine in SMALL:
            group = all_changes(machine)
            for count in range(-7, orders(machine) + 3):
                self.assertIs(is_batch_number(machine, count), splits_all(group, count))

    def test_zero_and_one_always_are(self):
        for machine in SMALL + LARGE + [EXACTLY_400]:
            for count in [0, 1]:
                self.assertIs(is_batch_number(machine, count), True)
                self.assertIsNone(batch_fault(machine, count))

    def test_thirty_digits_and_below_zero(self):
        self.assertEqual(BIG % 6, 0)
        for count, told in [(BIG, True), (BIG + 1, True), (BIG + 2, False), (-BIG, True), (1 - BIG, True),
                            (-1 - BIG, False), (10 ** 29, False), (10 ** 29 - 4, True), (10 ** 29 - 3, True)]:
            self.assertIs(is_batch_number(TURNS, count), told, count)
            self.assertIs(batch_fault(TURNS, count) is None, told)

    def test_where_order_never_matters_all_are(self):
        for machine in [TRIVIAL, STILL, RING6, KLEIN]:
            for count in [-BIG, -2, -1, 0, 1, 2, 3, BIG]:
                self.assertIs(is_batch_number(machine, count), True)
                self.assertIsNone(batch_fault(machine, count))

    def test_too_many_changes(self):
        for machine in [OVER_400, HUGE]:
            self.assertEqual(error_of(is_batch_number, machine, 1), REFUSED)
            self.assertEqual(error_of(batch_fault, machine, 2), REFUSED)
            self.assertEqual(error_of(moduli, machine), REFUSED)

    def test_arguments_by_name(self):
        self.assertIs(is_batch_number(machine=TURNS, count=3), False)
        self.assertIsNone(batch_fault(machine=TURNS, count=6))
        self.assertIs(is_batch_fault(machine=TURNS, count=3, value=None), False)


class BatchFaultTest(unittest.TestCase):

    def test_a_fault_is_told_just_where_there_is_one(self):
        for machine in SMALL + LARGE + [EXACTLY_400]:
            for count in list(range(-9, 33)) + [BIG, -BIG]:
                fault = batch_fault(machine, count)
                if is_batch_number(machine, count):
                    self.assertIsNone(fault)
                else:
                    self.assertTrue(is_fault(machine, count, fault))
                    self.assertIs(is_batch_fault(machine, count, fault), True)

    def test_the_same_fault_is_told_again(self):
        for count in range(-9, 12):
            self.assertEqual(batch_fault(TURNS, count), batch_fault(Machine(2, ([1, 0], [2, 2], [0, 1])), count))

    def test_a_single_command_will_do_as_the_second_row(self):
        for machine in [TURNS, SQUARE, QUATERNION, TWENTY]:
            commands = [change_of(machine, (command,)) for command in range(machine.commands)]
            for count in range(-6, 12):
                unlike = [one for one in changes(machine) for other in commands
                          if loop(one, other, count) != split_loop(one, other, count)]
                self.assertIs(bool(unlike), not is_batch_number(machine, count))

    def test_what_is_one(self):
        for value in [((0,), (1,), 0), ((0, 0, 0, 0), (0, 1), 0), ((1,), (0,), 0)]:
            for count in [2, 3, 5, -1, BIG + 2]:
                self.assertIs(is_batch_fault(TURNS, count, value), is_fault(TURNS, count, value))
        # The loop of 0 and 1 twice is idle; split, it turns by two: each state is led elsewhere.
        for state in range(3):
            self.assertIs(is_batch_fault(TURNS, 2, ((0,), (1,), state)), True)
        # Three times the loop is a flip, split it is the flip of 1: some states agree.
        self.assertEqual([is_batch_fault(TURNS, 3, ((0,), (1,), state)) for state in range(3)],
                         [loop((1, 2, 0), (0, 2, 1), 3)[state] != split_loop((1, 2, 0), (0, 2, 1), 3)[state]
                          for state in range(3)])

    def test_what_is_none(self):
        for value in oddities() + [0, (), ((0,), (1,)), ((0,), (1,), 0, 0), [(0,), (1,), 0], ([0], (1,), 0),
                                   ((0,), [1], 0), ((0,), (1,), 3), ((0,), (1,), -1), ((0,), (1,), False),
                                   ((0,), (1,), 0.0), ((0,), (2,), 0), ((-1,), (1,), 0), ((False,), (1,), 0),
                                   ((0,), (True,), 0), (0, 1, 0), ((0,), (1,), None), ((0,), (1,), [0]),
                                   (None, (1,), 0), ((), (), 0), ((0,), (0,), 0), ((0,), (), 1)]:
            self.assertIs(is_batch_fault(TURNS, 2, value), False, value)
        for count in [0, 1, 6, 7, -5, BIG]:
            self.assertIs(is_batch_fault(TURNS, count, ((0,), (1,), 0)), False)

    def test_faults_of_machines_with_very_many_changes(self):
        self.assertIs(is_batch_fault(HUGE, 2, ((0,), (1,), 0)), is_fault(HUGE, 2, ((0,), (1,), 0)))
        self.assertTrue(any(is_batch_fault(HUGE, 2, ((0,), (1,), state)) for state in range(16)))
        self.assertIs(is_batch_fault(HUGE, 1, ((0,) * 1000, (1,) * 1000, 3)), False)


class ModuliTest(unittest.TestCase):

    def test_known_machines(self):
        for machine, lot in [(TRIVIAL, ()), (STILL, ()), (RING6, ()), (KLEIN, ()), (TURNS, (6,)), (SQUARE, (4,)),
                             (QUATERNION, (4,)), (FIVES, (10,)), (EIGHTS, (8,)), (EVEN4, (6,)), (TWENTY, (20,)),
                             (TWENTY_ONE, (21,)), (THREES, (3,)), (SHIFTED, (6,)), (SQUARE_NINE, (3, 4)),
                             (SQUARE_TWENTY_ONE, (4, 21)), (THREES_FIVES, (3, 10)), (TURNS_FIVES, (30,)),
                             (EXACTLY_400, (20,))]:
            self.assertEqual(moduli(machine), lot)

    def test_just_the_batch_numbers_fit(self):
        for machine in SMALL + LARGE:
            lot = moduli(machine)
            self.assertTrue(is_lot(lot))
            for count in list(range(-5, 2 * math.prod(lot) + 3)) + [BIG + 1, -BIG - 2]:
                self.assertIs(is_batch_number(machine, count), fits(lot, count))

    def test_no_other_lot_will_do(self):
        for machine in [TURNS, SQUARE_NINE, RING6]:
            told = [fits(moduli(machine), count) for count in range(60)]
            for many in range(3):
                for lot in combinations(range(3, 31), many):
                    if is_lot(lot):
                        self.assertIs([fits(lot, count) for count in range(60)] == told, lot == moduli(machine))

    def test_empty_exactly_if_order_never_matters(self):
        for machine in SMALL + LARGE:
            self.assertIs(moduli(machine) == (), never_matters(machine))

    def test_the_product_is_the_least_count_with_a_neighbour(self):
        for machine in SMALL + LARGE:
            whole = math.prod(moduli(machine))
            self.assertEqual(orders(machine) % whole, 0)
            inner = set(middle(machine))
            for count in range(1, 2 * whole + 2):
                good = is_batch_number(machine, count)
                self.assertIs(good and is_batch_number(machine, count + 1), count % whole == 0)
                central = all(power(change, count) in inner for change in changes(machine))
                self.assertIs(good and central, count % whole == 0)
