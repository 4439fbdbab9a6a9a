"""Point 25: counts that force."""

import unittest
from itertools import combinations

from batchnumbers.batches import is_batch_number
from batchnumbers.changes import never_matters
from batchnumbers.following import lot_of
from batchnumbers.forcing import forces, is_least_forcing, least_forcing
from tests.helpers import BIG, LARGE, SMALL, error_of, oddities
from tests.test_following import NO_COUNTS, PRIMES, WHOLE

ODD_PRIMES = [prime for prime in range(3, 40, 2) if all(prime % low for low in range(2, prime))]
LISTS = [(), (0, 1), (2,), (-1,), (3,), (3, 5), (3, 4, 5), (2, 7), (2, -1), (5, 2, 9, -1), (4, 5), (4, 6), (4, 9, 14),
         (6, 10, 15), [7, 8, 9, 10], [0, 3, 1, 5, 3], (10, 21, 12), (30, 12, 20, 45), (9, 14, 22, 35, 50), (3, 5, 3, 5)]


def plain_forces(counts):
    """Whether for 4 and each odd prime one of the counts leaves neither 0 nor 1; for counts of at most two figures."""
    return all(any(count % prime > 1 for count in counts) for prime in [4] + [p for p in range(3, 110, 2) if all(
        p % low for low in range(2, p))])


def subsets(many):
    """All ascending tuples of indexes below `many`."""
    return [indexes for size in range(many + 1) for indexes in combinations(range(many), size)]


def is_least(counts, indexes):
    """Whether these indexes are least forcing, by the words of the document."""
    return plain_forces([counts[at] for at in indexes]) and not any(
        plain_forces([counts[at] for at in indexes if at != left]) for left in indexes)


class ExamplesTest(unittest.TestCase):

    def test_chapter_7(self):
        self.assertEqual((forces((3, 5)), is_least_forcing((3, 4, 5), (0, 2)), least_forcing((2, 7))),
                         (True, True, (0,)))


class ForcesTest(unittest.TestCase):

    def test_by_4_and_the_odd_primes(self):
        for many in range(4):
            for counts in combinations(range(-6, 13), many):
                self.assertIs(forces(counts), plain_forces(counts))
        for counts in LISTS:
            self.assertIs(forces(counts), plain_forces(counts))

    def test_exactly_with_the_empty_lot(self):
        for counts in LISTS:
            self.assertIs(forces(counts), lot_of(counts) == ())

    def test_single_counts(self):
        for count in list(range(-50, 51)) + [BIG, -BIG]:
            self.assertIs(forces([count]), count in (2, -1))

    def test_neighbours(self):
        for count in list(range(-40, 41)) + [BIG, -BIG]:
            self.assertIs(forces((count, count + 1, count + 2)), True)
            if count >= 3:
                self.assertIs(forces((count, count + 1)), False)
                self.assertEqual(lot_of((count, count + 1)), (count,))

    def test_with_others_beside(self):
        for counts in LISTS:
            for count in [-7, 0, 1, 12, BIG]:
                if forces(counts):
                    self.assertIs(forces(list(counts) + [count]), True)

    def test_on_machines(self):
        for machine in SMALL + LARGE:
            for counts in LISTS:
                if forces(counts) and all(is_batch_number(machine, count) for count in counts):
                    self.assertIs(never_matters(machine), True)
        self.assertIs(forces(counts=()), False)

    def test_no_counts(self):
        for value in NO_COUNTS:
            self.assertEqual(error_of(forces, value), ("InvalidQuestion", 0), value)


class LeastForcingTest(unittest.TestCase):

    def test_what_is_told(self):
        for many in range(4):
            for counts in combinations(range(-4, 11), many):
                told = least_forcing(counts)
                self.assertIs(told is not None, plain_forces(counts))
                if told is not None:
                    self.assertIs(type(told), tuple)
                    self.assertTrue(is_least(counts, told))
                    self.assertIs(is_least_forcing(counts, told), True)

    def test_longer_ones(self):
        for counts in LISTS:
            told = least_forcing(counts)
            self.assertIs(told is not None, forces(counts))
            self.assertIs(is_least_forcing(counts, told), told is not None)
            self.assertEqual(least_forcing(list(counts)), told)
        self.assertEqual(least_forcing(counts=[0, 1, 2]), (2,))

    def test_forty_counts_of_thirty_digits(self):
        # Without the count for a prime all the others are multiples of this prime, or one more.
        counts = [WHOLE // prime * pow(WHOLE // prime, -1, prime) * 2 for prime in PRIMES if prime > 2]
        self.assertIs(forces(counts), False)
        counts = counts + [4 * WHOLE, 4 * WHOLE + 3] * 10 + [1]
        self.assertEqual(len(counts), 40)
        told = least_forcing(counts)
        self.assertIs(is_least_forcing(counts, told), True)
        self.assertIs(forces([counts[at] for at in told]), True)
        for left in told:
            self.assertIs(forces([counts[at] for at in told if at != left]), False)

    def test_all_ascending_tuples(self):
        for counts in LISTS:
            for indexes in subsets(len(counts)):
                self.assertIs(is_least_forcing(counts, indexes), is_least(counts, indexes))
        self.assertIs(is_least_forcing(counts=(2,), value=(0,)), True)

    def test_what_is_no_ascending_tuple_of_indexes(self):
        self.assertIs(is_least_forcing((3, 5), (0, 1)), True)
        for value in oddities() + [0, 1, [0, 1], (1, 0), (0, 0, 1), (0, 1, 1), (0, 1, 2), (-2, -1), (-2, 1), (False, True),
                                   (0, True), (0.0, 1), (0, None), (0, "1"), ((0, 1),), ([0], 1), ()]:
            self.assertIs(is_least_forcing((3, 5), value), False, value)
        for value in [(True,), (1.0,), (-1,)]:
            self.assertIs(is_least_forcing((3, 2), value), False, value)

    def test_no_counts_ahead_of_all_else(self):
        for value in NO_COUNTS:
            self.assertEqual(error_of(least_forcing, value), ("InvalidQuestion", 0), value)
            for indexes in [(), (0,), None]:
                self.assertEqual(error_of(is_least_forcing, value, indexes), ("InvalidQuestion", 0), value)
