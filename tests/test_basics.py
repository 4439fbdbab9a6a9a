"""What the other modules rest on."""

import math
import unittest

from batchnumbers.basics import (check_integer, check_integers, inverse, is_ascending, is_below, is_integer, is_sequence,
                                 is_tuple_of, least_divisor, number_leaving, prime_powers, product_of,
                                 read_number, shared_part)
from tests.helpers import BIG, error_of, oddities


class KindsTest(unittest.TestCase):

    def test_integers(self):
        for value in [0, 1, -1, BIG, -BIG]:
            self.assertIs(is_integer(value), True)
        for value in oddities() + [(), [0], (0,)]:
            self.assertIs(is_integer(value), False)
            self.assertIs(is_below(value, 9), False)

    def test_numbers_below(self):
        self.assertEqual([is_below(value, 2) for value in [-1, 0, 1, 2, 3]], [False, True, True, False, False])

    def test_sequences(self):
        for value in [(), [], (1,), [None]]:
            self.assertIs(is_sequence(value), True)
        for value in oddities() + [0, range(3)]:
            self.assertIs(is_sequence(value), False)
        self.assertEqual([is_tuple_of(value, 2) for value in [(0, 1), [0, 1], (0,), (0, 1, 2), "01"]],
                         [True, False, False, False, False])

    def test_ascending(self):
        for value, told in [((), True), ((5,), True), ((1, 2, 4), True), ((1, 1), False), ((1, 3, 2), False)]:
            self.assertIs(is_ascending(value), told)

    def test_checks(self):
        for value in [0, -1, BIG]:
            self.assertIsNone(check_integer(value, 1))
            self.assertEqual(error_of(check_integers, value, 3), ("InvalidQuestion", 3))
            self.assertIsNone(check_integers([value, value], 1))
            self.assertIsNone(check_integers((value,), 1))
        self.assertIsNone(check_integers((), 0))
        for value in oddities() + [()]:
            self.assertEqual(error_of(check_integer, value, 2), ("InvalidQuestion", 2))
            self.assertEqual(error_of(check_integers, [1, value], 0), ("InvalidQuestion", 0))


class WordsTest(unittest.TestCase):

    def test_numbers_in_words(self):
        for figures in [1, 2, 9]:
            for number in [0, 1, 9, 10, 99, 100, 123456789, 1234567890]:
                told = number if len(str(number)) <= figures else -1
                self.assertEqual(read_number(str(number), figures), told)
        for word in ["", "00", "01", "-1", "-0", "+1", "1.", " 1", "1 ", "a", "1a", "\u0661", "\u00b2", "1\n", "1_0", "0x1"]:
            self.assertEqual(read_number(word, 9), -1, word)


class DivisorsTest(unittest.TestCase):

    def test_least_divisor(self):
        for number in range(1, 130):
            for least in range(1, number + 1):
                if number % least == 0:
                    self.assertEqual(least_divisor(number, lambda count: count % least == 0), least)

    def test_shared_part(self):
        for number in range(1, 80):
            for other in range(1, 80):
                told = shared_part(number, other)
                fitting = [part for part in range(1, number + 1) if number % part == 0
                           and all(other % prime == 0 for prime, _ in prime_powers(part))]
                self.assertEqual(told, max(fitting))
        self.assertEqual(shared_part(2 ** 90 * 3 ** 5, 10), 2 ** 90)

    def test_prime_powers(self):
        self.assertEqual(prime_powers(1), [])
        self.assertEqual(prime_powers(2), [(2, 2)])
        self.assertEqual(prime_powers(360), [(2, 8), (3, 9), (5, 5)])
        self.assertEqual(prime_powers(398), [(2, 2), (199, 199)])
        for number in range(1, 400):
            told = prime_powers(number)
            self.assertEqual(product_of([power for _, power in told]), number)
            for prime, power in told:
                self.assertTrue(all(prime % low for low in range(2, prime)))
                self.assertEqual(prime ** 9 % power, 0)

    def test_number_leaving(self):
        for ones in range(1, 30):
            for zeros in range(1, 30):
                if math.gcd(ones, zeros) == 1:
                    told = number_leaving(ones, zeros)
                    self.assertEqual((told % ones, told % zeros), (1 % ones, 0))
                    self.assertIn(told, range(ones * zeros))
                    self.assertEqual(inverse(zeros, ones) * zeros % ones, 1 % ones)
