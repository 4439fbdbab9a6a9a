"""Points 23 and 24: what follows from counts, and doubts."""

import math
import unittest
from itertools import combinations

from batchnumbers.batches import is_batch_number, moduli
from batchnumbers.following import doubt, follows, is_doubt, lot_of
from batchnumbers.rests import fits, is_lot
from tests.helpers import BIG, LARGE, SMALL, error_of, oddities

NO_COUNTS = oddities() + [0, 5, [True], (3, False), [3, 4.0], (3, "4"), [None], (3, None), [[3]], ((3,), 4), [3, {}],
                          range(3)]
# Primes whose product is near the limit of thirty digits.
PRIMES = [2, 3, 5, 7, 11, 13, 17, 19, 23, 29, 31, 37, 41, 43, 47, 53, 59, 61, 67, 71]
WHOLE = math.prod(PRIMES)


def small_counts():
    """All counts from -8 to 12, alone and by two, and some by three."""
    span = range(-8, 13)
    return ([()] + [(one,) for one in span] + [pair for pair in combinations(span, 2)]
            + list(combinations(range(-3, 11), 3)))


def is_open(counts, value):
    return all(count % value in (0, 1) for count in counts)


class ExamplesTest(unittest.TestCase):

    def test_chapter_7(self):
        self.assertEqual(
            (lot_of((3, 4)), lot_of([10, 21]), lot_of((3, 5)), lot_of((0, 1)), follows((4, 9), 12), doubt((3, 4), 5)),
            ((3,), (3, 10), (), None, True, 3))


class LotOfTest(unittest.TestCase):

    def test_just_the_divisors_of_its_moduli_are_open(self):
        for counts in small_counts():
            lot = lot_of(counts)
            if all(count in (0, 1) for count in counts):
                self.assertIsNone(lot)
            else:
                self.assertTrue(is_lot(lot))
                for value in range(3, 30):
                    self.assertIs(any(modulus % value == 0 for modulus in lot), is_open(counts, value))

    def test_all_0_or_1(self):
        for counts in [(), [], (0,), [1], (1, 0), [0, 0, 1, 1], [0] * 40]:
            self.assertIsNone(lot_of(counts))

    def test_single_counts(self):
        for count, lot in [(2, ()), (-1, ()), (3, (3,)), (-2, (3,)), (4, (3, 4)), (-3, (3, 4)), (5, (4, 5)),
                           (-60, (60, 61)), (60, (59, 60)), (BIG, (BIG - 1, BIG)), (-BIG, (BIG, BIG + 1))]:
            self.assertEqual(lot_of((count,)), lot)
            self.assertEqual(lot_of([count, 0, 1, count]), lot)
        self.assertEqual(lot_of(counts=[7]), (6, 7))

    def test_order_and_kind_of_the_sequence_do_not_matter(self):
        counts = [10, 21, 1, -9, 31, 0]
        told = lot_of(counts)
        self.assertEqual((told, counts), (lot_of(tuple(reversed(counts))), [10, 21, 1, -9, 31, 0]))
        self.assertIs(type(told), tuple)

    def test_moduli_ascend(self):
        self.assertEqual(lot_of((13, 40)), (3, 4, 13))
        self.assertEqual(lot_of((40, 105)), (3, 5, 8, 13))

    def test_thirty_digits_and_forty_counts(self):
        self.assertEqual(lot_of((BIG, BIG + 1)), (BIG,))
        self.assertEqual(lot_of((-BIG, 1 - BIG)), (BIG,))
        self.assertEqual(len(str(WHOLE)), 27)
        # Each further count parts the primes otherwise, so that each one stands alone in the end.
        counts = [WHOLE, WHOLE + 1]
        for bit in range(5):
            ones = math.prod(prime for at, prime in enumerate(PRIMES) if at >> bit & 1)
            zeros = WHOLE // ones
            counts.append(zeros * pow(zeros, -1, ones))
        counts = counts + [0, 1] * 16 + [1 - WHOLE]
        self.assertEqual(len(counts), 40)
        self.assertEqual(lot_of(counts), tuple(PRIMES[1:]))
        self.assertEqual(lot_of(counts[:2]), (WHOLE,))

    def test_machines_whose_batch_numbers_the_counts_are(self):
        for machine in SMALL + LARGE:
            lot = moduli(machine)
            good = [count for count in range(-20, 41) if is_batch_number(machine, count)]
            for counts in [good, good[:1], good[-2:], good[:3], good[3:5], good[::4]]:
                told = lot_of(counts)
                if told is not None:
                    for modulus in lot:
                        self.assertTrue(any(greater % modulus == 0 for greater in told))
                for count in range(-15, 16):
                    if follows(counts, count):
                        self.assertIs(is_batch_number(machine, count), True)

    def test_no_counts(self):
        for value in NO_COUNTS:
            self.assertEqual(error_of(lot_of, value), ("InvalidQuestion", 0), value)


class FollowsTest(unittest.TestCase):

    def test_exactly_what_fits_the_lot(self):
        for counts in small_counts():
            lot = lot_of(counts)
            for count in range(-15, 16):
                told = count in (0, 1) if lot is None else fits(lot, count)
                self.assertIs(follows(counts, count), told)

    def test_from_counts_that_are_0_or_1(self):
        for counts in [(), [0], (1,), [0, 1]]:
            self.assertEqual([count for count in range(-40, 41) if follows(counts, count)], [0, 1])
            self.assertIs(follows(counts, BIG), False)

    def test_by_the_document(self):
        for counts in small_counts():
            # Whatever does not follow has a doubt that is at most two more than it.
            for count in range(-6, 7):
                doubts = [value for value in range(3, 16) if is_open(counts, value) and count % value > 1]
                self.assertIs(follows(counts, count), doubts == [])

    def test_what_follows_from_what_follows(self):
        for counts in [(4, 9), (10, 21), (6,), (-5, 16), (3, 5), (12, 13, 25)]:
            more = [count for count in range(-30, 31) if follows(counts, count)]
            for some in [more, more[:3], more[-3:]]:
                for count in range(-30, 31):
                    if follows(some, count):
                        self.assertIs(follows(counts, count), True)
            for count in range(-30, 31):
                self.assertIs(follows(more, count), follows(counts, count))

    def test_far_counts(self):
        self.assertIs(follows((BIG, BIG + 1), 7 * BIG + 1), True)
        self.assertIs(follows((BIG, BIG + 1), -7 * BIG), True)
        self.assertIs(follows((BIG, BIG + 1), BIG + 2), False)
        self.assertIs(follows((2,), -BIG), True)
        self.assertIs(follows(counts=[BIG], count=1 - BIG), True)

    def test_no_counts(self):
        for value in NO_COUNTS:
            for count in [0, 1, 2]:
                self.assertEqual(error_of(follows, value, count), ("InvalidQuestion", 0), value)


class DoubtTest(unittest.TestCase):

    def test_a_doubt_just_for_what_does_not_follow(self):
        for counts in small_counts():
            for count in range(-15, 16):
                told = doubt(counts, count)
                self.assertIs(told is None, follows(counts, count))
                if told is not None:
                    self.assertGreaterEqual(told, 3)
                    self.assertTrue(is_open(counts, told))
                    self.assertNotIn(count % told, (0, 1))
                    self.assertIs(is_doubt(counts, count, told), True)
                    self.assertEqual(doubt(list(counts), count), told)

    def test_far_counts(self):
        for counts, count in [((), BIG), ([0, 1], -BIG), ((BIG, BIG + 1), 10 ** 29), ([WHOLE], 5), ((), math.factorial(27)),
                              ((), 1 - math.factorial(27))]:
            self.assertIs(is_doubt(counts, count, doubt(counts, count)), True)
        self.assertIsNone(doubt(counts=(BIG,), count=BIG * BIG))

    def test_which_values_are_doubts(self):
        for counts in [(), (0, 1), (3,), (4, 9), [10, 21], (-12, 24), (36,)]:
            for count in range(-20, 21):
                for value in range(-5, 45):
                    told = value >= 3 and is_open(counts, value) and count % value not in (0, 1)
                    self.assertIs(is_doubt(counts, count, value), told)
        self.assertIs(is_doubt(counts=(), count=BIG, value=10 * BIG), True)
        self.assertIs(is_doubt((), -1, 10 * BIG), True)
        self.assertIs(is_doubt((), 1, 10 * BIG), False)

    def test_other_values(self):
        for value in oddities() + [(), (3,), [3], 3.0]:
            self.assertIs(is_doubt((3, 4), 5, value), False, value)
        self.assertIs(is_doubt((3, 4), 5, 3), True)

    def test_no_counts_ahead_of_all_else(self):
        for value in NO_COUNTS:
            for count in [0, 5]:
                self.assertEqual(error_of(doubt, value, count), ("InvalidQuestion", 0), value)
                for third in [3, 0, None]:
                    self.assertEqual(error_of(is_doubt, value, count, third), ("InvalidQuestion", 0), value)
