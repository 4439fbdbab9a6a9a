"""Points 20 and 21: knots and merged numbers."""

import math
import unittest
from itertools import product

from batchnumbers.batches import moduli
from batchnumbers.changes import changes
from batchnumbers.knotted import division, is_knots, knots, merged
from batchnumbers.machines import Machine
from batchnumbers.parts import is_made_of, is_part, part_number, part_of
from batchnumbers.rests import fits, is_lot
from tests.helpers import (CUBE8, EVEN4, EVEN5, FIVES, HUGE, KLEIN, OVER_400, QUATERNION, RING4, RING6, SMALL, SQUARE,
                           SQUARE_PAIR, THREES, TRIVIAL, TURNS, TURNS_FIVES, TWO, beside, error_of, oddities,
                           of_changes, quaternion_product, splits_all)
from tests.test_parts import NO_PARTS, RING, all_parts, follow, goes_along

REFUSED = ("Refused", 0)
BY_RIGHT = [tuple(quaternion_product(state, maker) for state in range(8)) for maker in (2, 1)]
BY_LEFT = [tuple(quaternion_product(maker, state) for state in range(8)) for maker in (2, 1)]
# Two kinds of sixteen and thirty-two changes that have a middle in common and are no plain products.
PAULI = of_changes(BY_RIGHT[0], BY_RIGHT[1], BY_LEFT[0])
EXTRA = of_changes(*(BY_RIGHT + BY_LEFT))
TWELVE = of_changes((1, 2, 0, 3, 4, 5, 6), (0, 2, 1, 4, 5, 6, 3))
MORE = [PAULI, EXTRA, TWELVE, beside(QUATERNION, KLEIN), beside(SQUARE, RING4), beside(TURNS, RING6),
        beside(TURNS, TURNS), beside(TWELVE, RING6)]


def is_division(machine, part, pair):
    """Whether a pair of parts is a division of the part, by the words of the document."""
    one, other = pair
    return (type(pair) is tuple and is_part(machine, one) and is_part(machine, other) and part not in pair
            and goes_along(one, other) and follow(one, other) == set(part))


def is_parted(part, parts):
    """Whether the part is made of two others, by trying all of them."""
    inner = [one for one in parts if set(one) < set(part)]
    return any(len(one) * len(other) >= len(part) and goes_along(one, other) and follow(one, other) == set(part)
               for one in inner for other in inner)


class ExamplesTest(unittest.TestCase):

    def test_chapter_6(self):
        turns = Machine(2, [(1, 0), (2, 2), (0, 1)])
        self.assertEqual((division(turns, part_of(turns, [(1, 2, 0)])), merged([2, 6, 1, 21, 5])), (None, (5, 42)))
        two = Machine(2, [(1, 0), (0, 1), (2, 3), (3, 4), (4, 2)])
        self.assertIs(is_knots(two, (part_of(two, [(1, 0, 2, 3, 4)]), part_of(two, [(0, 1, 3, 4, 2)]))), True)
        self.assertIs(is_knots(two, (changes(two),)), False)


class DivisionTest(unittest.TestCase):

    def test_each_part_by_trying_all_pairs(self):
        for machine in [TRIVIAL, TURNS, SQUARE, TWO, RING4, RING6, KLEIN, CUBE8, QUATERNION, FIVES, EVEN4, THREES,
                        SQUARE_PAIR, PAULI, TWELVE, beside(QUATERNION, of_changes((1, 0))), beside(TURNS, RING4)]:
            parts = all_parts(machine)
            for part in parts:
                pair = division(machine, part)
                self.assertIs(pair is not None, is_parted(part, parts))
                if pair is not None:
                    self.assertTrue(is_division(machine, part, pair))
                    self.assertEqual(division(machine, part), pair)

    def test_larger_machines(self):
        for machine in MORE + [TURNS_FIVES]:
            if machine != TWELVE:
                pair = division(machine, changes(machine))
                self.assertTrue(is_division(machine, changes(machine), pair))
        for machine in [EVEN5, TWELVE]:
            self.assertIsNone(division(machine, changes(machine)))
        self.assertIsNone(division(machine=TURNS, part=RING))

    def test_what_is_no_part(self):
        for value in NO_PARTS:
            self.assertEqual(error_of(division, TURNS, value), ("InvalidQuestion", 1), value)

    def test_too_many_changes_ahead_of_all_else(self):
        for machine in [OVER_400, HUGE]:
            for value in [None, (tuple(range(machine.states)),)]:
                self.assertEqual(error_of(division, machine, value), REFUSED)
                self.assertEqual(error_of(is_knots, machine, value), REFUSED)
            self.assertEqual(error_of(knots, machine), REFUSED)


class KnotsTest(unittest.TestCase):

    def test_what_is_told_are_knots(self):
        for machine in SMALL + MORE + [EVEN5, TURNS_FIVES]:
            told = knots(machine)
            self.assertIs(type(told), tuple)
            self.assertIs(is_knots(machine, told), True)
            self.assertIs(is_made_of(machine, changes(machine), told), True)
            for part in told:
                self.assertIsNone(division(machine, part))
            self.assertEqual(knots(machine), told)

    def test_their_numbers_merge_to_the_moduli(self):
        for machine in SMALL + MORE + [EVEN5, TURNS_FIVES]:
            self.assertEqual(merged([part_number(machine, part) for part in knots(machine)]), moduli(machine))

    def test_the_counts_of_a_knot(self):
        for machine in [TURNS, SQUARE, SQUARE_PAIR, EVEN4, TWELVE, PAULI]:
            for part in all_parts(machine):
                if division(machine, part) is None:
                    number = part_number(machine, part)
                    for count in range(-number - 1, number + 3):
                        self.assertIs(splits_all(part, count), count % number in (0, 1))

    def test_other_lots_of_knots(self):
        idle = ((0, 1, 2, 3, 4),)
        one, other = part_of(TWO, [(1, 0, 2, 3, 4)]), part_of(TWO, [(0, 1, 3, 4, 2)])
        for value in [(one, other), (other, one), (one, other, one), (one, idle, other), (other, one, other, idle)]:
            self.assertIs(is_knots(TWO, value), True, value)
        for value in oddities() + [0, (), (one,), (other,), (one, one), (idle,), [one, other], (one, list(other)),
                                   (changes(TWO),), (changes(TWO), one), (one, other, None), (one, other, ()), one]:
            self.assertIs(is_knots(TWO, value), False, value)
        self.assertIs(is_knots(machine=TRIVIAL, value=(((0,),),)), True)
        self.assertIs(is_knots(TRIVIAL, ()), False)

    def test_knots_that_do_not_go_along(self):
        flips = part_of(TURNS, [(0, 2, 1)])
        self.assertIs(is_knots(TURNS, (RING, flips)), False)
        self.assertIs(is_knots(TURNS, (changes(TURNS),)), True)
        self.assertIs(is_knots(TURNS, (changes(TURNS), changes(TURNS))), False)

    def test_all_pairs_of_parts(self):
        for machine in [KLEIN, RING6, SQUARE_PAIR]:
            parts = all_parts(machine)
            lone = [part for part in parts if not is_parted(part, parts)]
            for one, other in product(parts, repeat=2):
                told = (one in lone and other in lone and goes_along(one, other)
                        and follow(one, other) == set(changes(machine)))
                self.assertIs(is_knots(machine, (one, other)), told)


class MergedTest(unittest.TestCase):

    def test_merged(self):
        for numbers, lot in [([], ()), ((), ()), ([1, 2, 2, 1], ()), ([2, 3], (3,)), ([2, 4], (4,)), ([4, 6], (12,)),
                             ([6, 10, 15], (30,)), ([3, 5], (3, 5)), ((5, 3), (3, 5)), ([4, 9, 6], (36,)),
                             ([9, 4, 35, 25], (4, 9, 175)), ([7, 7, 7], (7,)), ([3, 4, 5, 60], (60,)),
                             ([6, 35, 14, 11], (11, 210)), ([10 ** 29, 3], (3, 10 ** 29))]:
            self.assertEqual(merged(numbers), lot)
            self.assertEqual(merged(tuple(numbers)), lot)
            self.assertEqual(merged(numbers[::-1]), lot)
        self.assertEqual(merged(numbers=[12]), (12,))

    def test_an_integer_fits_exactly_if_it_leaves_0_or_1_by_each(self):
        for numbers in product(range(1, 13), repeat=3):
            lot = merged(numbers)
            self.assertTrue(is_lot(lot))
            whole = math.lcm(*numbers)
            self.assertEqual([fits(lot, count) for count in range(whole)],
                             [all(count % number in (0, 1) for number in numbers) for count in range(whole)])

    def test_what_is_no_sequence_of_integers_from_1_on(self):
        for value in oddities() + [0, 6, [0], [-3], [3, True], [3, 2.0], [3, None], [3, "4"], ([3],), [[3]], (3, 0)]:
            self.assertEqual(error_of(merged, value), ("InvalidQuestion", 0), value)

    def test_the_list_stays_as_it_is(self):
        numbers = [6, 4, 1]
        told = merged(numbers)
        self.assertEqual((numbers, told), ([6, 4, 1], (12,)))
        numbers.append(5)
        self.assertEqual(told, (12,))
