"""Point 26: lots together."""

import math
import unittest
from itertools import combinations

from batchnumbers.following import lot_of
from batchnumbers.lots import common_lot, is_coarser, telling_counts
from batchnumbers.rests import fits, is_lot
from tests.helpers import BIG, error_of
from tests.test_rests import LOTS, NO_LOTS, WIDE

SMALL_LOTS = [lot for many in range(3) for lot in combinations(range(3, 17), many) if is_lot(lot)]
SIXTEEN = tuple(sorted(prime ** power for prime, power in [
    (2, 99), (3, 62), (5, 42), (7, 35), (11, 28), (17, 24), (19, 23), (23, 22), (29, 20), (31, 20), (37, 19), (41, 18),
    (43, 18), (53, 17), (67, 16), (71, 16)]))


def plain_coarser(one, other):
    """Whether each integer that fits the second lot fits the first."""
    return all(fits(one, count) for count in range(math.prod(one) * math.prod(other)) if fits(other, count))


class ExamplesTest(unittest.TestCase):

    def test_chapter_7(self):
        self.assertEqual(common_lot((12,), (4, 21)), (3, 4))


class CoarserTest(unittest.TestCase):

    def test_exactly_if_all_that_fits_the_second_fits_the_first(self):
        for one in SMALL_LOTS[:70]:
            for other in SMALL_LOTS[::5] + SMALL_LOTS[:9]:
                self.assertIs(is_coarser(one, other), plain_coarser(one, other))

    def test_known_ones(self):
        for one, other, told in [((), (), True), ((), (3,), True), ((3,), (), False), ((3, 4), (12,), True),
                                 ((12,), (3, 4), False), ((3, 5), (15, 16), True), ((3, 5), (9, 10), True),
                                 ((4, 9), (8, 9, 5), False), ((6,), (4, 9), False), (WIDE, WIDE, True), ((3,), WIDE, True)]:
            if is_lot(other):
                self.assertIs(is_coarser(one, other), told)
        self.assertIs(is_coarser(one=(4, 9), other=(5, 8, 9)), True)

    def test_what_is_no_lot(self):
        for value in NO_LOTS:
            for function in [is_coarser, common_lot]:
                self.assertEqual(error_of(function, value, (3,)), ("InvalidQuestion", 0), value)
                self.assertEqual(error_of(function, (3,), value), ("InvalidQuestion", 1), value)
                self.assertEqual(error_of(function, (), value), ("InvalidQuestion", 1), value)
                self.assertEqual(error_of(function, value, value), ("InvalidQuestion", 0), value)


class CommonLotTest(unittest.TestCase):

    def test_by_the_words_of_the_document(self):
        for one in SMALL_LOTS + LOTS:
            for other in SMALL_LOTS[::7] + LOTS:
                told = common_lot(one, other)
                self.assertTrue(is_lot(told))
                self.assertEqual(told, tuple(sorted(math.gcd(p, q) for p in one for q in other if math.gcd(p, q) > 2)))

    def test_it_is_the_finest_of_the_coarser_ones(self):
        for one in SMALL_LOTS[::6]:
            for other in SMALL_LOTS[::5]:
                told = common_lot(one, other)
                for lot in SMALL_LOTS[:60]:
                    self.assertIs(is_coarser(lot, told), is_coarser(lot, one) and is_coarser(lot, other))

    def test_the_lot_of_counts_together(self):
        lists = [(3,), (4,), (3, 4), (10, 21), (16, 36, 25), (-5, 6), (2,), (BIG,), (BIG, BIG + 1), (1, 60)]
        for one in lists:
            for other in lists:
                self.assertEqual(common_lot(lot_of(one), lot_of(other)), lot_of(one + other))

    def test_wide_ones(self):
        self.assertEqual(common_lot(WIDE, WIDE), WIDE)
        self.assertEqual(common_lot(one=WIDE, other=(6,)), (3,))
        self.assertEqual(common_lot((math.prod(WIDE[:3]),), WIDE), WIDE[:3])


class TellingCountsTest(unittest.TestCase):

    def check(self, lot):
        told = telling_counts(lot)
        self.assertIs(type(told), tuple)
        self.assertEqual(list(told), sorted(set(told)))
        self.assertTrue(all(type(count) is int for count in told))
        self.assertGreaterEqual(told[0], 1)
        self.assertLessEqual(told[-1], math.prod(lot) + 1)
        self.assertEqual(lot_of(told), lot)
        most = 0
        while 2 ** most < len(lot):
            most += 1
        self.assertLessEqual(len(told), most + 2)

    def test_small_ones(self):
        for lot in SMALL_LOTS + LOTS + [(3, 4, 5, 7, 11), (3, 5, 7, 8, 11, 13), (3, 4, 5, 7, 11, 13, 17, 19)]:
            self.check(lot)
        self.assertEqual(telling_counts(lot=(6,)), telling_counts((6,)))

    def test_no_moduli(self):
        self.check(())
        self.assertLessEqual(set(telling_counts(())), {1, 2})

    def test_up_to_sixteen_moduli_of_thirty_digits(self):
        self.assertEqual([len(str(modulus)) for modulus in SIXTEEN], [30] * 16)
        for many in range(17):
            self.check(SIXTEEN[:many])
        self.check(WIDE)
        self.check((BIG,))

    def test_what_is_no_lot(self):
        for value in NO_LOTS:
            self.assertEqual(error_of(telling_counts, value), ("InvalidQuestion", 0), value)
