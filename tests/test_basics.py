"""What the other modules rest on."""

import math
import unittest

from batchnumbers.basics import (inverse, is_ascending, is_below, is_integer, is_sequence, is_tuple_of, number_leaving,
                                 prime_powers, product_of)
from tests.helpers import BIG, oddities


class KindsTest(unittest.TestCase):

    def test_integers(self):
        for value in [0, 1, -1, BIG, -BIG]:
            self.assertIs(is_integer(value), True)
        for value in oddities() + [(), [0], (0,)]:
            self.assertIs(is_integer(value), False)
            self.assertIs(is_below(value, 9), False)

    def test_numbers_below(self):
        self.assertEqual([is_below(value, 2) for value in [-1, 0, 1, 2, 3]], [False, True, True, False, False])

    def test_sequences(self):
        for value in [(), [], (1,), [None]]:
            self.assertIs(is_sequence(value), True)
        for value in oddities() + [0, range(3)]:
            self.assertIs(is_sequence(value), False)
        self.assertEqual([is_tuple_of(value, 2) for value in [(0, 1), [0, 1], (0,), (0, 1, 2), "01"]],
                         [True, False, False, False, False])

    def test_ascending(self):
        for value, told in [((), True), ((5,), True), ((1, 2, 4), True), ((1, 1), False), ((1, 3, 2), False)]:
            self.assertIs(is_ascending(value), told)


class DivisorsTest(unittest.TestCase):

    def test_prime_powers(self):
        self.assertEqual(prime_powers(1), [])
        self.assertEqual(prime_powers(2), [(2, 2)])
        self.assertEqual(prime_powers(360), [(2, 8), (3, 9), (5, 5)])
        self.assertEqual(prime_powers(398), [(2, 2), (199, 199)])
        for number in range(1, 400):
            told = prime_powers(number)
            self.assertEqual(product_of([power for _, power in told]), number)
            for prime, power in told:
                self.assertTrue(all(prime % low for low in range(2, prime)))
                self.assertEqual(prime ** 9 % power, 0)

    def test_number_leaving(self):
        for ones in range(1, 30):
            for zeros in range(1, 30):
                if math.gcd(ones, zeros) == 1:
                    told = number_leaving(ones, zeros)
                    self.assertEqual((told % ones, told % zeros), (1 % ones, 0))
                    self.assertIn(told, range(ones * zeros))
                    self.assertEqual(inverse(zeros, ones) * zeros % ones, 1 % ones)
