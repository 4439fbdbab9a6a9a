"""Point 38: swaps, and how many patterns have which crossings."""

import math
import unittest
from itertools import combinations, product

from batchnumbers.patterns import crossings
from batchnumbers.swaps import harmless_swaps, pattern_counts
from tests.helpers import BIG, error_of, oddities
from tests.test_patterns import NO_PATTERNS

NO_NUMBERS = oddities() + [0, -1, -BIG, (), [3], (3,)]
LONG = tuple((at * at + at // 5) % 2 for at in range(300))


def many_crossings(pattern):
    """How many pairs of places have 1 at the left and 0 at the right, by looking at all."""
    return sum(1 for one, other in combinations(pattern, 2) if one > other)


def swapped(pattern, swaps):
    """The pattern behind the swaps in turn."""
    letters = list(pattern)
    for at in swaps:
        assert type(at) is int and 0 <= at < len(letters) - 1
        letters[at], letters[at + 1] = letters[at + 1], letters[at]
    return tuple(letters)


def swap_distances(pattern):
    """The fewest swaps to each pattern that comes about by swaps, by trying all."""
    found = {pattern: 0}
    waiting = [pattern]
    for now in waiting:
        for at in range(len(pattern) - 1):
            further = swapped(now, (at,))
            if further not in found:
                found[further] = found[now] + 1
                waiting.append(further)
    return found


def told_distance(pattern, number):
    """The least distance of the crossings from a multiple that is at most zeros * ones."""
    many = many_crossings(pattern)
    most = pattern.count(0) * pattern.count(1)
    return min(abs(many - multiple) for multiple in range(0, most + 1, number))


def plain_counts(zeros, ones, number):
    """How many patterns leave which rest, by going through all of them."""
    found = [0] * number
    for places in combinations(range(zeros + ones), ones):
        pattern = [1 if at in places else 0 for at in range(zeros + ones)]
        found[many_crossings(pattern) % number] += 1
    return tuple(found)


def product_counts(zeros, ones, number):
    """The same by another way: the ways to have so many crossings are those to fit rows into a rectangle."""
    ways = [1] + [0] * (zeros * ones)
    for step in range(1, ones + 1):
        # Times 1 - x ** (zeros + step), then divided by 1 - x ** step.
        for at in range(len(ways) - 1, zeros + step - 1, -1):
            ways[at] -= ways[at - zeros - step]
        for at in range(step, len(ways)):
            ways[at] += ways[at - step]
    return tuple(sum(ways[rest::number]) for rest in range(number))


class ExamplesTest(unittest.TestCase):

    def test_chapter_10(self):
        swaps = harmless_swaps((1, 1, 0, 0), 3)
        self.assertEqual(swaps, (1,))
        self.assertEqual(pattern_counts(2, 2, 3), (2, 2, 2))


class HarmlessSwapsTest(unittest.TestCase):

    def check(self, pattern, number, fewest):
        told = harmless_swaps(pattern, number)
        self.assertIs(type(told), tuple)
        self.assertEqual(many_crossings(swapped(pattern, told)) % number, 0)
        self.assertEqual(len(told), fewest)
        self.assertEqual(harmless_swaps(pattern, number), told)

    def test_none_is_shorter(self):
        for many in range(8):
            for pattern in product((0, 1), repeat=many):
                distances = swap_distances(pattern)
                for number in list(range(1, 9)) + [12, 13, BIG]:
                    fewest = min(distance for reached, distance in distances.items()
                                 if many_crossings(reached) % number == 0)
                    self.check(pattern, number, fewest)
                    self.assertEqual(fewest, told_distance(pattern, number))

    def test_up_and_down(self):
        # 4 crossings: one more or one fewer, whichever is nearer, but not more than there can be.
        self.assertEqual(len(harmless_swaps((1, 1, 0, 0), 5)), 4)
        self.assertEqual(len(harmless_swaps((1, 1, 0, 0, 0), 5)), 1)
        self.assertEqual(len(harmless_swaps((1, 0, 1, 0, 0), 6)), 1)
        self.assertEqual(harmless_swaps(pattern=(0, 1), number=2), ())
        self.assertEqual(harmless_swaps((1, 0), 2), (0,))
        self.assertEqual(harmless_swaps((0, 0, 1, 0, 1), 5), (2,))

    def test_nothing_to_be_swapped(self):
        for pattern in [(), (0,), (1,), (0, 0, 0), (1,) * 300, (0,) * 300, (0, 0, 1, 1)]:
            for number in [1, 2, 3, BIG]:
                self.assertEqual(harmless_swaps(pattern, number), ())
        for pattern in [LONG, (1, 0, 1, 0)]:
            self.assertEqual(harmless_swaps(pattern, 1), ())

    def test_300_letters(self):
        for pattern in [LONG, LONG[::-1], (0, 1) * 150, (1, 0) * 150]:
            for number in [2, 7, 1000, 11213, BIG]:
                self.check(pattern, number, told_distance(pattern, number))
        for pattern, number, fewest in [((1,) * 150 + (0,) * 150, 22501, 22500), ((1,) * 150 + (0,) * 150, 22499, 1),
                                        ((0,) + (1,) * 150 + (0,) * 149, 22500, 150), ((1,) * 299 + (0,), 150, 149)]:
            self.check(pattern, number, fewest)

    def test_what_is_no_pattern_of_two_letters(self):
        for value in NO_PATTERNS + [(2,), (0, 1, 2), (7, 0), (1, 0, 5, 8)]:
            for number in [3, 0, None]:
                self.assertEqual(error_of(harmless_swaps, value, number), ("InvalidQuestion", 0), value)

    def test_what_is_no_number_from_1_on(self):
        for value in NO_NUMBERS:
            for pattern in [(), (1, 0), (0, 1)]:
                self.assertEqual(error_of(harmless_swaps, pattern, value), ("InvalidQuestion", 1), value)


class PatternCountsTest(unittest.TestCase):

    def test_by_all_patterns(self):
        for zeros, ones in product(range(6), repeat=2):
            for number in [1, 2, 3, 4, 5, 7, 10, 30]:
                told = pattern_counts(zeros, ones, number)
                self.assertEqual(told, plain_counts(zeros, ones, number))
                self.assertIs(type(told), tuple)
        self.assertEqual(pattern_counts(zeros=3, ones=1, number=6), (1, 1, 1, 1, 0, 0))
        self.assertEqual((pattern_counts(0, 0, 1), pattern_counts(0, 0, 3), pattern_counts(30, 0, 2)),
                         ((1,), (1, 0, 0), (1, 0)))

    def test_the_crossings_of_the_document(self):
        found = [0] * 4
        for pattern in product((0, 1), repeat=6):
            if sum(pattern) == 2:
                found[sum(many for _, _, many in crossings(pattern)) % 4] += 1
        self.assertEqual(pattern_counts(4, 2, 4), tuple(found))

    def test_up_to_30(self):
        for zeros, ones, number in [(30, 30, 30), (30, 30, 1), (30, 30, 29), (29, 30, 7), (30, 29, 16), (0, 30, 30),
                                    (30, 1, 30), (17, 30, 25), (30, 12, 11)]:
            told = pattern_counts(zeros, ones, number)
            self.assertEqual(sum(told), math.comb(zeros + ones, ones))
            self.assertEqual(told, product_counts(zeros, ones, number))
            self.assertEqual(pattern_counts(ones, zeros, number), told)

    def test_what_is_refused(self):
        for value in oddities() + [-1, -BIG, (), (3,), [3]]:
            self.assertEqual(error_of(pattern_counts, value, 2, 3), ("InvalidQuestion", 0), value)
            self.assertEqual(error_of(pattern_counts, 2, value, 3), ("InvalidQuestion", 1), value)
            self.assertEqual(error_of(pattern_counts, value, value, 0), ("InvalidQuestion", 0), value)
            self.assertEqual(error_of(pattern_counts, 2, value, value), ("InvalidQuestion", 1), value)
        for value in NO_NUMBERS:
            self.assertEqual(error_of(pattern_counts, 2, 2, value), ("InvalidQuestion", 2), value)
            self.assertEqual(error_of(pattern_counts, 0, 0, value), ("InvalidQuestion", 2), value)
