"""Points 29 and 30: moduli of shelvings, shelvings folded together, a shelving for every lot, and against counts."""

import math
import unittest
from itertools import combinations

from batchnumbers.batches import is_batch_number, moduli
from batchnumbers.changes import changes
from batchnumbers.errors import Refused
from batchnumbers.folding import against, folded, shelf_moduli, shelving_for
from batchnumbers.following import follows
from batchnumbers.rests import fits, is_lot
from batchnumbers.shelves import is_shelving, shelf_machine
from batchnumbers.walks import jump_fault
from tests.helpers import BIG, error_of, oddities
from tests.test_following import NO_COUNTS
from tests.test_rests import NO_LOTS
from tests.test_shelves import NO_SHELVINGS, SHELVINGS, WIDE_SHELVING
from tests.test_walks import UNEVEN

MORE = [(6, (0, 1, 2, 3, 4, 5)), (10, (1, 9, 3, 3)), (12, (0, 5, 0, 5, 1)), (7, (1, 6, 0, 0, 0)), (8, (0, 1, 2, 3)),
        (9, (1, 1, 1, 4)), (15, (0, 1, 0))]


def all_lots(most, least=3, whole=1):
    """All lots with a product of at most this."""
    lots = [()]
    for modulus in range(least, most // whole + 1):
        if math.gcd(modulus, whole) == 1:
            lots.extend((modulus,) + lot for lot in all_lots(most, modulus + 1, whole * modulus))
    return lots


def few_changes(machine):
    """Whether the machine has at most 400 changes."""
    try:
        changes(machine)
    except Refused:
        return False
    return True


class ExamplesTest(unittest.TestCase):

    def test_chapter_8(self):
        self.assertEqual((shelf_moduli((2, (0, 1))), shelf_moduli((5, (1, 4, 0))), folded((2, (0, 1)), (3, (1, 2)))),
                         ((4,), (15,), (6, (4, 5))))
        self.assertEqual((shelf_moduli((6, (4, 5))), jump_fault((5, (1, 4, 0)), 16), against((3, 4), 9)),
                         ((12,), None, None))


class ShelfModuliTest(unittest.TestCase):

    def test_just_what_has_no_jump_fault_fits(self):
        for shelving in SHELVINGS + MORE:
            lot = shelf_moduli(shelving)
            self.assertTrue(is_lot(lot))
            whole = shelving[0] * len(shelving[1])
            self.assertEqual(whole % math.prod(lot), 0)
            for count in list(range(-4, 2 * whole + 3)) + [BIG, -BIG]:
                self.assertIs(fits(lot, count), jump_fault(shelving, count) is None)

    def test_the_moduli_of_the_machine(self):
        tried = 0
        for shelving in SHELVINGS + MORE:
            machine = shelf_machine(shelving)
            if few_changes(machine):
                tried += 1
                self.assertEqual(shelf_moduli(shelving), moduli(machine))
        self.assertGreater(tried, 18)

    def test_none_exactly_if_all_weights_are_equal(self):
        for shelving in SHELVINGS + MORE + [(64, (5,) * 64), (64, (63,)), (1, (0,) * 64)]:
            self.assertIs(shelf_moduli(shelving) == (), len(set(shelving[1])) == 1)

    def test_64_places_and_shelves(self):
        self.assertEqual(shelf_moduli(WIDE_SHELVING), (128,))
        for shelving in [UNEVEN, (63, (0,) * 62 + (1, 5)), (60, (1,) + (0,) * 59), (64, (1, 63) + (0,) * 61)]:
            lot = shelf_moduli(shelving)
            whole = math.prod(lot)
            self.assertEqual(shelving[0] * len(shelving[1]) % whole, 0)
            for count in list(range(30)) + [whole - 1, whole, whole + 1, whole // 2, whole // 3, whole // 5]:
                self.assertIs(fits(lot, count), jump_fault(shelving, count) is None)
        self.assertEqual(shelf_moduli((64, (1, 63) + (0,) * 61)), (64 * 63,))

    def test_no_shelving(self):
        for value in NO_SHELVINGS:
            self.assertEqual(error_of(shelf_moduli, value), ("InvalidQuestion", 0), value)
        self.assertEqual(shelf_moduli(shelving=(2, (0, 1))), (4,))


class FoldedTest(unittest.TestCase):

    def test_each_weight(self):
        for one in SHELVINGS + MORE:
            for other in SHELVINGS + MORE:
                if math.gcd(one[0], other[0]) == 1:
                    told = folded(one, other)
                    self.assertIs(is_shelving(told), True)
                    places, weights = told
                    self.assertEqual(places, one[0] * other[0])
                    self.assertEqual(len(weights), math.lcm(len(one[1]), len(other[1])))
                    for shelf, weight in enumerate(weights):
                        self.assertEqual(weight % one[0], one[1][shelf % len(one[1])])
                        self.assertEqual(weight % other[0], other[1][shelf % len(other[1])])
                else:
                    self.assertEqual(error_of(folded, one, other), ("Refused", 0))

    def test_batch_numbers_of_both(self):
        for one, other in [((2, (0, 1)), (3, (1, 2))), ((2, (0, 1)), (3, (0, 1, 2))), ((5, (1, 4, 0)), (2, (0, 1, 0))),
                           ((1, (0, 0)), (4, (1, 3))), ((3, (2,)), (4, (0, 1, 2, 3))), ((64, (0, 1)), (63, (0, 1, 2)))]:
            both = folded(one, other)
            for count in list(range(-10, 70)) + [BIG]:
                self.assertIs(jump_fault(both, count) is None,
                              jump_fault(one, count) is None and jump_fault(other, count) is None)

    def test_on_machines(self):
        one, other = shelf_machine((2, (0, 1))), shelf_machine((3, (1, 2)))
        both = shelf_machine(folded((2, (0, 1)), (3, (1, 2))))
        for count in range(-13, 26):
            self.assertIs(is_batch_number(both, count), is_batch_number(one, count) and is_batch_number(other, count))

    def test_no_shelvings(self):
        for value in NO_SHELVINGS:
            self.assertEqual(error_of(folded, value, (2, (0, 1))), ("InvalidQuestion", 0), value)
            self.assertEqual(error_of(folded, (2, (0, 1)), value), ("InvalidQuestion", 1), value)
            self.assertEqual(error_of(folded, value, value), ("InvalidQuestion", 0), value)
        self.assertEqual(error_of(folded, (4, (0, 1)), (6, (0, 5))), ("Refused", 0))
        self.assertEqual(folded(one=(1, (0,)), other=(1, (0, 0))), (1, (0, 0)))


class ShelvingForTest(unittest.TestCase):

    def test_all_lots_with_a_product_of_at_most_60(self):
        lots = all_lots(60)
        self.assertIn((3, 4, 5), lots)
        self.assertIn((59,), lots)
        for lot in lots:
            told = shelving_for(lot)
            self.assertIs(is_shelving(told), True)
            self.assertEqual((math.prod(lot) % told[0], math.prod(lot) % len(told[1])), (0, 0))
            self.assertEqual(shelf_moduli(told), lot)
            self.assertEqual(shelving_for(lot), told)

    def test_the_moduli_of_machines(self):
        tried = 0
        for lot in all_lots(60):
            places, weights = shelving_for(lot)
            machine = shelf_machine((places, weights)) if places * len(weights) <= 60 else None
            if machine is not None and few_changes(machine):
                tried += 1
                self.assertEqual(moduli(machine), lot)
        self.assertGreaterEqual(tried, 10)

    def test_all_ways_to_part_a_modulus(self):
        for low in range(2, 14):
            for high in range(2, 14):
                if math.gcd(low, high) == 1:
                    self.assertEqual(shelf_moduli((low, (1, low - 1) + (0,) * (high - 2))), (low * high,))

    def test_what_is_no_lot(self):
        for value in NO_LOTS:
            self.assertEqual(error_of(shelving_for, value), ("InvalidQuestion", 0), value)
        self.assertEqual(shelf_moduli(shelving_for(lot=())), ())


class AgainstTest(unittest.TestCase):

    def setUp(self):
        self.lots = {}

    def lot_of_shelving(self, shelving):
        """The moduli of a shelving, worked out once."""
        if shelving not in self.lots:
            self.lots[shelving] = shelf_moduli(shelving)
        return self.lots[shelving]

    def check(self, counts, count):
        told = against(counts, count)
        self.assertIs(told is None, follows(counts, count))
        if told is not None:
            self.assertIs(is_shelving(told), True)
            self.assertLessEqual(told[0], 64)
            self.assertLessEqual(len(told[1]), 64)
            lot = self.lot_of_shelving(told)
            self.assertTrue(all(fits(lot, known) for known in counts))
            self.assertFalse(fits(lot, count))

    def test_single_counts(self):
        for one in range(-60, 61):
            for count in range(-60, 61):
                self.check((one,), count)

    def test_counts_that_are_all_0_or_1(self):
        for counts in [(), [], (0,), [1, 0, 1]]:
            for count in range(-60, 61):
                self.check(counts, count)

    def test_more_counts(self):
        for counts in list(combinations((-60, -59, -15, -8, 3, 4, 9, 10, 21, 36, 45, 59, 60), 2)) + [
                (16, 17, 33), [9, 10, 36], (4, 9, 60), (0, 1, 31, 32), (-30, 31, 60), (3, 5), (2,), (-1, 7)]:
            for count in range(-60, 61, 7):
                self.check(counts, count)

    def test_on_machines(self):
        for counts, count in [((3,), 2), ((4, 9), 6), ((3, 4), 5), ((6, 7), 3), ((), 2), ((5, 6), 10), ((5, 6), 4),
                              ((12, 13), 4), ((4, 5), 8)]:
            told = against(counts, count)
            if told is not None:
                machine = shelf_machine(told)
                if few_changes(machine):
                    self.assertTrue(all(is_batch_number(machine, known) for known in counts))
                    self.assertFalse(is_batch_number(machine, count))

    def test_no_counts(self):
        for value in NO_COUNTS:
            for count in [0, 2]:
                self.assertEqual(error_of(against, value, count), ("InvalidQuestion", 0), value)
        self.assertIsNone(against(counts=(2,), count=60))


class OddValuesTest(unittest.TestCase):

    def test_odd_values_beside_right_ones(self):
        for value in oddities():
            self.assertEqual(error_of(folded, (2, (0, 1)), (3, value)), ("InvalidQuestion", 1), value)
            self.assertEqual(error_of(shelf_moduli, (2, (0, value))), ("InvalidQuestion", 0), value)
