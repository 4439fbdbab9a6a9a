"""Point 46: machines by couples of rows."""

import math
import unittest
from itertools import combinations, product

from batchnumbers.batches import is_batch_number, moduli
from batchnumbers.changes import change_of, changes
from batchnumbers.coupled import couples_tell, telling_couples
from batchnumbers.couples import couple_round, suits
from batchnumbers.machines import Machine
from tests.helpers import (CUBE8, EIGHTS, EXACTLY_400, FIVES, FOUR_TWENTY_ONE, HUGE, KLEIN, LARGE, OVER_400, PAIR,
                           QUATERNION, RING6, SMALL, SQUARE, SQUARE_NINE, SQUARE_PAIR, STILL, TEN_TWENTY_ONE, THREES, TRIVIAL,
                           TURNS, TWENTY, TWENTY_ONE, TWO, beside, error_of, oddities, work_of)

REFUSED = ("Refused", 0)
ROWS = [(), (0,), (1,), (0, 1), (1, 0), (0, 0), (1, 1, 0)]
# Machines that no single couple tells.
BOTH = [beside(TURNS, SQUARE), SQUARE_NINE, beside(FIVES, SQUARE), beside(QUATERNION, THREES)]
# Here couples that are found one after another, each for a count that suits those before, are not all needed.
MORE = [beside(TWENTY_ONE, TURNS), beside(TWENTY, EIGHTS)]
# Here either of two couples so found can be left out, but not both; in the last one, both.
EITHER = [
    Machine(4, ((5, 5, 0, 6), (1, 4, 1, 1), (2, 7, 2, 2), (3, 2, 3, 7), (0, 6, 4, 5), (6, 1, 5, 4), (4, 0, 6, 0),
                (7, 3, 7, 3))),
    Machine(3, ((8, 4, 6), (4, 0, 1), (6, 2, 3), (0, 8, 4), (2, 1, 2), (5, 7, 9), (3, 3, 8), (7, 5, 5), (1, 6, 0), (9, 9, 7))),
    Machine(2, ((1, 2), (4, 4), (3, 3), (0, 1), (2, 0)))]


def is_row(machine, value):
    return type(value) is tuple and all(type(command) is int and 0 <= command < machine.commands for command in value)


def tells(machine, couples):
    """Whether just the batch numbers suit all the couples, by the words of the document."""
    steps = [(change_of(machine, u), change_of(machine, v)) for u, v in couples]
    whole = math.prod(moduli(machine))
    return all(all(suits(one, other, count) for one, other in steps) == is_batch_number(machine, count)
               for count in range(-2, whole + 2))


class ExamplesTest(unittest.TestCase):

    def test_chapter_12(self):
        turns = Machine(2, [(1, 0), (2, 2), (0, 1)])
        self.assertIs(couples_tell(turns, (((0,), (1,)),)), True)


class CouplesTellTest(unittest.TestCase):

    def test_by_the_words_of_the_document(self):
        for machine in [TURNS, SQUARE, TWO, KLEIN, FIVES, TWENTY]:
            couples = list(product(ROWS, repeat=2))
            for some in [(couple,) for couple in couples] + list(zip(couples, couples[9:])) + [tuple(couples), ()]:
                self.assertIs(couples_tell(machine, some), tells(machine, some))

    def test_several_are_needed(self):
        for machine in BOTH[:3]:
            last = machine.commands - 1
            one, other = ((0,), (1,)), ((last - 1,), (last,))
            for some, told in [((one,), False), ((other,), False), ((one, other), True), ((other, one), True),
                               ((one, one), False), ((other, one, one), True), ((), False)]:
                self.assertIs(couples_tell(machine, some), told)
                self.assertIs(tells(machine, some), told)

    def test_no_moduli(self):
        for machine in [TRIVIAL, STILL, PAIR, TWO, RING6, KLEIN, CUBE8]:
            last = machine.commands - 1
            for some in [(), (((0,), (last,)),), (((), ()), ((0, last), (last, 0)))]:
                self.assertIs(couples_tell(machine, some), True)
        self.assertIs(couples_tell(machine=TURNS, value=()), False)

    def test_long_rows(self):
        rows = (0, 1) * 500, (1,) * 999
        self.assertIs(couples_tell(TURNS, (rows,)), tells(TURNS, (rows,)))
        self.assertIs(couples_tell(TURNS, (((0,) + (0, 0, 0) * 333, (1,) * 999),)), True)

    def test_values_that_are_none(self):
        good = ((0,), (1,))
        for value in oddities() + [0, [], [good], good, ((0,), 1), ((),), (((0,),),), (((0,), (1,), ()),), ([(0,), (1,)],),
                                   (([0], (1,)),), (((0,), [1]),), (((0,), (2,)),), (((-1,), (1,)),), (((False,), (1,)),),
                                   (((0,), (True,)),), (((0,), (1.0,)),), ((0, 1),), ((None, (1,)),), (good, None),
                                   (good, [(0,), (1,)]), (good, ((0,), (5,))), (((0,), (1, None)), good)]:
            self.assertIs(couples_tell(TURNS, value), False, value)
            self.assertIs(couples_tell(TWO, value), False, value)

    def test_too_many_changes_ahead_of_all_else(self):
        for machine in [OVER_400, HUGE]:
            for value in [(), (((0,), (1,)),), None, [((0,), (1,))]]:
                self.assertEqual(error_of(couples_tell, machine, value), REFUSED)
            self.assertEqual(error_of(telling_couples, machine), REFUSED)


class TellingCouplesTest(unittest.TestCase):

    def test_they_tell_and_none_can_be_left_out(self):
        for machine in SMALL + LARGE + BOTH + MORE + EITHER + [EXACTLY_400, TEN_TWENTY_ONE, FOUR_TWENTY_ONE]:
            told = telling_couples(machine)
            self.assertIs(type(told), tuple)
            for couple in told:
                self.assertTrue(type(couple) is tuple and len(couple) == 2)
                self.assertTrue(all(is_row(machine, row) for row in couple))
            self.assertTrue(tells(machine, told))
            self.assertIs(couples_tell(machine, told), True)
            self.assertIs(couples_tell(machine, told[::-1]), True)
            for at in range(len(told)):
                fewer = told[:at] + told[at + 1:]
                self.assertFalse(tells(machine, fewer))
                self.assertIs(couples_tell(machine, fewer), False)
            self.assertEqual(telling_couples(machine), told)

    def test_none_for_no_moduli(self):
        for machine in SMALL:
            self.assertIs(telling_couples(machine) == (), moduli(machine) == ())
        self.assertEqual(telling_couples(machine=TRIVIAL), ())

    def test_several_for_several_moduli(self):
        for machine in BOTH:
            couples = list(combinations([(command,) for command in range(machine.commands)], 2))
            self.assertFalse(any(couples_tell(machine, (couple,)) for couple in couples))
            self.assertIs(couples_tell(machine, tuple(couples)), True)


class WorkTest(unittest.TestCase):

    def test_a_machine_that_took_long(self):
        self.assertEqual(moduli(TEN_TWENTY_ONE), (10, 21))
        told = telling_couples(TEN_TWENTY_ONE)
        self.assertTrue(tells(TEN_TWENTY_ONE, told))
        self.assertIs(couples_tell(TEN_TWENTY_ONE, told), True)
        for at in range(len(told)):
            fewer = told[:at] + told[at + 1:]
            self.assertFalse(tells(TEN_TWENTY_ONE, fewer))
            self.assertIs(couples_tell(TEN_TWENTY_ONE, fewer), False)
        # Other couples tell it as well.
        some = (((2, 0, 0), (0,)), ((3, 3), (1,)), ((3, 1), (1,)))
        for couples in [some, some[1:], some[:1] + some[2:], some[:2], told[:1] + some, some[::-1]]:
            self.assertIs(couples_tell(TEN_TWENTY_ONE, couples), tells(TEN_TWENTY_ONE, couples))

    def test_little_is_done(self):
        # Where powers were made anew for each count, this took from half a million to a million and a half lines.
        for machine in [TEN_TWENTY_ONE, FOUR_TWENTY_ONE]:
            told = telling_couples(machine)
            self.assertLess(work_of(telling_couples, machine), 100000)
            for value in [told, told[1:], told[:-1], (), None, told + (None,), (((0, 1) * 500, (2, 3) * 500),) + told]:
                self.assertLess(work_of(couples_tell, machine, value), 100000)
            self.assertLess(work_of(couples_tell, machine, told * 500), 100000)
        for machine in [OVER_400, HUGE]:
            self.assertLess(work_of(telling_couples, machine), 100000)
            self.assertLess(work_of(couples_tell, machine, (((0,), (1,)),)), 100000)


class FactsTest(unittest.TestCase):

    def test_the_product_of_the_moduli_is_that_of_the_rounds(self):
        for machine in [TRIVIAL, TURNS, SQUARE, TWO, KLEIN, QUATERNION, FIVES, EIGHTS, TWENTY, THREES, SQUARE_PAIR]:
            group = changes(machine)
            rounds = [couple_round(one, other) for one in group for other in group]
            self.assertEqual(math.lcm(*rounds), math.prod(moduli(machine)))

    def test_each_batch_number_suits_each_couple(self):
        for machine in [TURNS, SQUARE, QUATERNION, FIVES, THREES]:
            for count in [count for count in range(-12, 13) if is_batch_number(machine, count)]:
                self.assertTrue(all(suits(one, other, count) for one in changes(machine) for other in changes(machine)))
