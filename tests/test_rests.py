"""Point 12, with what point 11 says of lots: fitting integers."""

import math
import unittest

from batchnumbers.rests import fits, fitting_between, is_lot, next_fitting, residues
from tests.helpers import BIG, error_of, oddities

LOTS = [(), (3,), (4,), (6,), (3, 4), (3, 10), (5, 6), (4, 9), (7, 15), (3, 4, 5), (5, 7, 9), (3, 5, 7, 8)]
NO_LOTS = oddities() + [0, 3, [], [3], (2,), (1,), (0,), (-3,), (True,), (3.0,), ("3",), (3, 3), (4, 3), (3, 6), (4, 6),
                        (6, 10, 15), (3, 4, 9), ((3,),), (3, None), (None,), (3, [4]), ([3],), (2, 3), (3, True)]
# Ten moduli of 29 and 30 digits: powers of unlike primes have no common divisor but 1.
WIDE = tuple(sorted([3 ** 60, 5 ** 40, 7 ** 34, 11 ** 27, 13 ** 26, 17 ** 23, 19 ** 22, 23 ** 21, 29 ** 20, 2 ** 97]))


def plain_fits(lot, count):
    return all(count % modulus in (0, 1) for modulus in lot)


class LotTest(unittest.TestCase):

    def test_lots(self):
        for lot in LOTS + [WIDE, tuple([3, 4, 5, 7, 11, 13, 17, 19, 23, 29, 31, 37])]:
            self.assertIs(is_lot(lot), True, lot)
        self.assertIs(is_lot(value=(3, 4)), True)

    def test_no_lots(self):
        for value in NO_LOTS:
            self.assertIs(is_lot(value), False, value)

    def test_all_pairs(self):
        for low in range(-2, 20):
            for high in range(-2, 20):
                self.assertIs(is_lot((low, high)), 3 <= low < high and math.gcd(low, high) == 1)

    def test_no_lot_is_refused_by_all(self):
        for value in NO_LOTS:
            for function, more in [(fits, (0,)), (residues, ()), (next_fitting, (0,)), (fitting_between, (0, 9)),
                                   (fitting_between, (9, 0))]:
                self.assertEqual(error_of(function, value, *more), ("InvalidQuestion", 0), value)


class FittingTest(unittest.TestCase):

    def test_example_of_chapter_4(self):
        self.assertEqual(
            (residues((3, 10)), next_fitting((3, 10), 2), fitting_between((3, 10), -30, 30), is_lot((4, 6))),
            ((0, 1, 10, 21), 10, 8, False))

    def test_fits(self):
        self.assertIs(fits((3,), -5), True)
        self.assertIs(fits((3,), -1), False)
        for lot in LOTS:
            for count in range(-100, 100):
                self.assertIs(fits(lot, count), plain_fits(lot, count))
        self.assertIs(fits(lot=(), count=-BIG), True)

    def test_residues(self):
        for lot in LOTS:
            told = residues(lot)
            self.assertIs(type(told), tuple)
            self.assertEqual(told, tuple(count for count in range(math.prod(lot)) if plain_fits(lot, count)))
            self.assertEqual(len(told), 2 ** len(lot))
        self.assertEqual(residues(lot=()), (0,))

    def test_next_fitting(self):
        for lot in LOTS:
            for count in range(-150, 150):
                least = count
                while not plain_fits(lot, least):
                    least += 1
                self.assertEqual(next_fitting(lot, count), least)
        self.assertEqual(next_fitting(lot=(5,), count=2), 5)

    def test_fitting_between(self):
        for lot in LOTS:
            for low in range(-70, 70, 3):
                for high in range(-70, 70, 7):
                    self.assertEqual(fitting_between(lot, low, high),
                                     len([count for count in range(low, high) if plain_fits(lot, count)]))
        self.assertEqual(fitting_between(lot=(3,), low=0, high=1), 1)
        self.assertEqual(fitting_between((3,), 1, 1), 0)
        self.assertEqual(fitting_between((3,), BIG, -BIG), 0)
        self.assertEqual(fitting_between((), -BIG, BIG), 2 * BIG)

    def test_ten_wide_moduli_and_four_hundred_digits(self):
        rests = residues(WIDE)
        self.assertEqual(len(rests), 1024)
        self.assertEqual(list(rests), sorted(set(rests)))
        self.assertTrue(all(plain_fits(WIDE, rest) for rest in rests))
        self.assertLess(rests[-1], math.prod(WIDE))
        whole = math.prod(WIDE)
        for count in [10 ** 399 + 7, -10 ** 399 - 7, BIG, -BIG]:
            told = next_fitting(WIDE, count)
            self.assertTrue(plain_fits(WIDE, told))
            self.assertGreaterEqual(told, count)
            self.assertEqual(fitting_between(WIDE, count, told), 0)
            self.assertEqual(fitting_between(WIDE, count, told + 1), 1)
            self.assertEqual(fitting_between(WIDE, count, count + 5 * whole), 5 * 1024)
            self.assertIs(fits(WIDE, count - count % whole), True)

    def test_huge_counts_by_a_small_lot(self):
        low, high = -10 ** 399, 10 ** 399
        # By 3 these leave: each three neighbours have two that fit.
        self.assertEqual(fitting_between((3,), low, low + 3 * BIG), 2 * BIG)
        self.assertEqual(next_fitting((3,), high + 1), high + 2)
