"""Points 43 and 44: couples of changes, far counts, exchanged couples."""

import math
import unittest
from itertools import permutations

from batchnumbers.changes import back, change_places, loop, order, power, split_loop
from batchnumbers.couples import couple_rests, couple_round, next_suiting, suiting_between, suits
from tests.helpers import BIG, error_of, oddities, of_cycles, then, times

SEVEN = ((0, 3, 6, 2, 5, 7, 4, 1), (7, 6, 0, 3, 5, 1, 2, 4))
# Its round is 12, its rests are 0, 1, 4 and 9; all orders divide 60, not any lesser number.
TWELVE = ((0, 8, 1, 3, 4, 5, 7, 6, 2, 9, 11, 12, 13, 14, 10), (7, 3, 2, 8, 4, 5, 9, 0, 1, 6, 10, 11, 12, 13, 14))
# Each change of four states beside one of each kind, and some with more states.
COUPLES = [(one, other) for one in [(0, 1, 2, 3), (1, 0, 2, 3), (1, 0, 3, 2), (0, 2, 3, 1), (1, 2, 3, 0)]
           for other in permutations(range(4))]
COUPLES += [SEVEN, SEVEN[::-1], TWELVE, TWELVE[::-1], ((0,), (0,)), ((1, 0), (1, 0)), ((1, 2, 0), (0, 2, 1)),
            (of_cycles(5, (0, 1, 2, 3, 4)), of_cycles(5, (1, 2, 4, 3))), (of_cycles(5, (0, 1), (2, 3, 4)), (1, 0, 2, 3, 4)),
            (of_cycles(6, (0, 1, 2)), of_cycles(6, (2, 3, 4, 5))), (of_cycles(7, (0, 1), (2, 3)), of_cycles(7, (1, 2), (4, 5, 6)))]
# The least common multiples of their orders: 420, 840, 2310 and 2730.
WIDE = [((2, 5, 6, 0, 4, 10, 11, 8, 7, 1, 9, 3), (6, 10, 0, 11, 9, 8, 3, 1, 7, 5, 4, 2)),
        ((0, 1, 14, 6, 3, 5, 11, 7, 15, 9, 10, 8, 2, 4, 12, 13), (13, 2, 10, 3, 4, 5, 6, 12, 8, 9, 7, 11, 1, 0, 14, 15)),
        ((14, 3, 11, 6, 5, 4, 2, 8, 0, 9, 15, 1, 12, 7, 10, 13), (0, 1, 6, 3, 4, 12, 10, 7, 8, 9, 2, 11, 5, 13, 14, 15)),
        ((0, 10, 11, 12, 4, 8, 6, 7, 9, 2, 1, 5, 3, 13), (13, 1, 12, 4, 6, 2, 3, 7, 8, 9, 0, 10, 11, 5))]
# What are no two changes of as many states.
NO_TWO = [(value, (0, 1)) for value in oddities() + [0, (), [0, 1], (0,), (0, 0), (0, 2), (True, 0), (0.0, 1), (1, -1), (0, None)]]
NO_TWO += [(other, one) for one, other in NO_TWO] + [((0, 1), (0, 1, 2)), ((), ()), ([0], [0]), (None, None)]


def plain_suits(one, other, count):
    """Whether loop and split loop are the same, step by step."""
    return times(then(one, other), count) == then(times(one, count), times(other, count))


def all_orders(one, other):
    """The least common multiple of the orders of both and of one followed by other."""
    return math.lcm(order(one), order(other), order(then(one, other)))


class ExamplesTest(unittest.TestCase):

    def test_chapter_12(self):
        one, other = (0, 3, 6, 2, 5, 7, 4, 1), (7, 6, 0, 3, 5, 1, 2, 4)
        self.assertEqual(
            (couple_round(one, other), couple_rests(one, other), couple_rests(other, one), next_suiting(one, other, 4)),
            (7, (0, 1, 3), (0, 1, 5), 7))
        self.assertEqual(suiting_between((1, 2, 0), (0, 2, 1), -6, 7), 5)


class SuitsTest(unittest.TestCase):

    def test_step_by_step(self):
        for one, other in COUPLES:
            for count in range(-9, 14):
                self.assertIs(suits(one, other, count), plain_suits(one, other, count))
        self.assertIs(suits(one=(1, 2, 0), other=(0, 2, 1), count=BIG), True)
        self.assertIs(suits((1, 2, 0), (0, 2, 1), BIG + 2), False)

    def test_far_counts(self):
        for one, other in COUPLES[::7] + WIDE:
            whole = all_orders(one, other)
            for count in [0, 1, 2, 3, 7, -1]:
                told = suits(one, other, count)
                for far in [BIG * whole + count, count - BIG * whole]:
                    self.assertIs(suits(one, other, far), told)
                    self.assertIs(told, loop(one, other, far) == split_loop(one, other, far))

    def test_what_are_no_two_changes(self):
        for one, other in NO_TWO:
            for function, more in [(suits, (3,)), (couple_round, ()), (couple_rests, ()), (next_suiting, (0,)),
                                   (suiting_between, (0, 9)), (suiting_between, (9, 0))]:
                self.assertEqual(error_of(function, one, other, *more), ("InvalidChange", 0), (one, other))


class RoundTest(unittest.TestCase):

    def test_the_least_with_the_next_one(self):
        for one, other in COUPLES:
            told = couple_round(one, other)
            least = 1
            while not (plain_suits(one, other, least) and plain_suits(one, other, least + 1)):
                least += 1
            self.assertEqual(told, least)
        self.assertEqual(couple_round(one=(1, 2, 0), other=(0, 2, 1)), 6)

    def test_wide_ones(self):
        self.assertEqual([couple_round(one, other) for one, other in WIDE], [420, 840, 2310, 2730])
        for one, other in WIDE:
            told = couple_round(one, other)
            for count in range(1, told):
                self.assertFalse(suits(one, other, count) and suits(one, other, count + 1))

    def test_1_exactly_if_they_change_places(self):
        for one, other in COUPLES + WIDE:
            self.assertIs(couple_round(one, other) == 1, change_places(one, other))
            self.assertEqual(all_orders(one, other) % couple_round(one, other), 0)

    def test_no_lesser_number_tells_what_suits(self):
        for one, other in COUPLES:
            told = couple_round(one, other)
            suiting = [plain_suits(one, other, count) for count in range(3 * told)]
            self.assertEqual(suiting[:told] * 3, suiting)
            for lesser in range(1, told):
                self.assertNotEqual(suiting[lesser:], suiting[:-lesser])


class RestsTest(unittest.TestCase):

    def test_the_numbers_below_the_round_that_suit(self):
        for one, other in COUPLES:
            told = couple_rests(one, other)
            self.assertEqual(told, tuple(count for count in range(couple_round(one, other)) if plain_suits(one, other, count)))
            self.assertIs(type(told), tuple)
        self.assertEqual(couple_rests(one=(1, 2, 0), other=(0, 2, 1)), (0, 1))
        self.assertEqual(couple_rests((0,), (0,)), (0,))

    def test_wide_ones(self):
        self.assertEqual([couple_rests(one, other) for one, other in WIDE],
                         [(0, 1, 196, 225), (0, 1, 225, 616), (0, 1), (0, 1)])

    def test_neighbours(self):
        for one, other in COUPLES + WIDE:
            rests, whole = couple_rests(one, other), couple_round(one, other)
            if whole > 1:
                self.assertEqual([rest for rest in rests if rest + 1 in rests], [0])
                self.assertNotIn(whole - 1, rests)
                self.assertFalse(suits(one, other, 2) or suits(one, other, -1))

    def test_when_the_next_one_suits(self):
        for one, other in COUPLES:
            for count in range(-8, 9):
                if suits(one, other, count):
                    told = suits(one, other, count + 1)
                    self.assertIs(told, change_places(power(one, count), other))
                    self.assertIs(told, change_places(power(other, count), one))
                    self.assertIs(told, count % couple_round(one, other) == 0)

    def test_exchanged_and_backwards(self):
        for one, other in COUPLES + WIDE:
            rests, whole = couple_rests(one, other), couple_round(one, other)
            self.assertEqual(sorted((1 - rest) % whole for rest in couple_rests(other, one)), list(rests))
            self.assertEqual(couple_rests(back(other), back(one)), rests)
            for count in range(-6, 7):
                self.assertIs(suits(other, one, count), suits(one, other, 1 - count))


class FarTest(unittest.TestCase):

    def test_next_suiting(self):
        for one, other in COUPLES + WIDE[:2]:
            whole = couple_round(one, other)
            for count in range(-10, 12):
                least = count
                while not suits(one, other, least):
                    least += 1
                self.assertEqual(next_suiting(one, other, count), least)
                for far in [BIG, -BIG, 10 ** 29]:
                    self.assertEqual(next_suiting(one, other, count + far * whole), least + far * whole)
        self.assertEqual(next_suiting(one=SEVEN[0], other=SEVEN[1], count=-3), 0)
        self.assertEqual(next_suiting(*SEVEN, 7 * BIG + 2), 7 * BIG + 3)
        self.assertEqual(next_suiting(*WIDE[3], 2730 * BIG + 2), 2730 * BIG + 2730)

    def test_suiting_between(self):
        for one, other in COUPLES[::4] + [SEVEN]:
            suiting = [count for count in range(-10, 16) if suits(one, other, count)]
            for low in range(-10, 12, 3):
                for high in range(-10, 17, 2):
                    self.assertEqual(suiting_between(one, other, low, high),
                                     len([count for count in suiting if low <= count < high]))
        self.assertEqual(suiting_between(one=SEVEN[0], other=SEVEN[1], low=0, high=7), 3)

    def test_low_at_and_above_high(self):
        for one, other in COUPLES[::5] + WIDE:
            for low, high in [(0, 0), (1, 1), (1, 0), (7, -7), (BIG, BIG), (BIG, -BIG), (-BIG, -BIG - 1), (3, 2)]:
                self.assertEqual(suiting_between(one, other, low, high), 0)

    def test_far_between(self):
        for one, other in COUPLES + WIDE:
            rests, whole = couple_rests(one, other), couple_round(one, other)
            self.assertEqual(suiting_between(one, other, -BIG * whole, BIG * whole), 2 * BIG * len(rests))
            self.assertEqual(suiting_between(one, other, BIG * whole, BIG * whole + 2), 2)
            self.assertEqual(suiting_between(one, other, 1 - BIG * whole, whole - BIG * whole), len(rests) - 1)
            self.assertEqual(suiting_between(one, other, -BIG * whole, BIG * whole + 1), 2 * BIG * len(rests) + 1)
