"""Point 13: papers."""

import math
import unittest

from batchnumbers.batches import batch_fault, is_batch_number, moduli
from batchnumbers.changes import orders
from batchnumbers.machines import Machine
from batchnumbers.papers import court_paper, is_court_paper
from batchnumbers.rests import fits, is_lot
from tests.helpers import (BIG, EVEN5, EXACTLY_400, FOUR_TWENTY_ONE, HUGE, LARGE, OVER_400, RING6, SMALL, SQUARE,
                           SQUARE_NINE, SQUARE_TWENTY_ONE, TEN_TWENTY_ONE, TRIVIAL, TURNS, TWENTY, error_of, oddities,
                           work_of)

REFUSED = ("Refused", 0)
GOOD = ((6,), ((2, (0,), (1,), 0), (3, (0,), (1,), 0)))


def primes_of(whole):
    return [prime for prime in range(2, whole + 1) if whole % prime == 0
            and all(prime % low for low in range(2, prime))]


def parted(modulus):
    """The pairs of factors of which each is greater than 1 and that have no common divisor but 1."""
    return [(low, modulus // low) for low in range(2, modulus) if modulus % low == 0
            and math.gcd(low, modulus // low) == 1]


def shows(machine, lot, counts):
    """Whether the counts of a paper's faults show that this is the machine's lot, by the words of the document."""
    whole = math.prod(lot)
    if not is_batch_number(machine, whole) or not is_batch_number(machine, whole + 1):
        return False
    for modulus in lot:
        rest = whole // modulus
        if not is_batch_number(machine, [count for count in range(0, whole, rest) if count % modulus == 1][0]):
            return False
        others = tuple(other for other in lot if other != modulus)
        for low, high in parted(modulus):
            if not any({(count % low, count % high)} & {(0, 1), (1, 0)} and fits(others, count) for count in counts):
                return False
    return all(any(count % (whole // prime) == 0 for count in counts) for prime in primes_of(whole))


def with_faults(machine, lot, counts):
    return lot, tuple((count,) + batch_fault(machine, count) for count in counts)


class ExamplesTest(unittest.TestCase):

    def test_chapter_4(self):
        turns = Machine(2, [(1, 0), (2, 2), (0, 1)])
        self.assertIs(is_court_paper(turns, ((6,), ((2, (0,), (1,), 0), (3, (0,), (1,), 0)))), True)


class CourtPaperTest(unittest.TestCase):

    def test_what_is_told_is_a_paper(self):
        for machine in SMALL + LARGE + [EXACTLY_400, TEN_TWENTY_ONE, FOUR_TWENTY_ONE]:
            paper = court_paper(machine)
            self.assertIs(type(paper), tuple)
            lot, faults = paper
            self.assertEqual(lot, moduli(machine))
            self.assertEqual(list(faults), sorted(set(faults)))
            self.assertTrue(shows(machine, lot, [fault[0] for fault in faults]))
            self.assertIs(is_court_paper(machine, paper), True)
            self.assertEqual(court_paper(machine), paper)

    def test_too_many_changes(self):
        for machine in [OVER_400, HUGE]:
            self.assertEqual(error_of(court_paper, machine), REFUSED)
            self.assertEqual(error_of(is_court_paper, machine, GOOD), REFUSED)
            self.assertEqual(error_of(is_court_paper, machine, None), REFUSED)

    def test_no_moduli_no_faults(self):
        for machine in [TRIVIAL, RING6]:
            self.assertEqual(court_paper(machine), ((), ()))
            self.assertIs(is_court_paper(machine, ((), ())), True)
            self.assertIs(is_court_paper(machine, ((3,), ())), False)
        self.assertIs(is_court_paper(TURNS, ((), ())), False)

    def test_arguments_by_name(self):
        self.assertIs(is_court_paper(machine=TURNS, value=GOOD), True)
        self.assertIs(is_court_paper(TURNS, court_paper(machine=TURNS)), True)

    def test_each_lot_of_counts_just_as_the_document_says(self):
        for machine in [TURNS, SQUARE, TWENTY, SQUARE_NINE]:
            lot = moduli(machine)
            counts = [count for count in range(-3, 26) if not is_batch_number(machine, count)]
            for first in counts:
                for second in counts:
                    if first < second:
                        told = is_court_paper(machine, with_faults(machine, lot, (first, second)))
                        self.assertIs(told, shows(machine, lot, (first, second)), (first, second))
                self.assertIs(is_court_paper(machine, with_faults(machine, lot, (first,))),
                              shows(machine, lot, (first,)))

    def test_three_primes_want_three_ways_to_part_them(self):
        # 30 is 2 * 15, 3 * 10 and 5 * 6: each of these counts leaves 0 by one of two factors and 1 by the other.
        full = (6, 10, 15)
        self.assertIs(is_court_paper(EVEN5, with_faults(EVEN5, (30,), full)), True)
        for left in full:
            counts = tuple(count for count in full if count != left)
            self.assertIs(is_court_paper(EVEN5, with_faults(EVEN5, (30,), counts)), False)
        # Multiples of 15, 10 and 6, too, but 12 and 20 leave neither 0 nor 1 by 5 and 3; 16, 21 and 25 mend it.
        self.assertIs(is_court_paper(EVEN5, with_faults(EVEN5, (30,), (12, 20, 45))), False)
        self.assertIs(is_court_paper(EVEN5, with_faults(EVEN5, (30,), (12, 16, 20, 21, 25, 45))), True)

    def test_what_parts_a_modulus_fits_the_others(self):
        # 28 leaves 0 by 7, 1 by 3 and 0 by 4; 7 and 70 leave the same by 21, but 3 and 2 by 4.
        lot = (4, 21)
        for count, told in [(28, True), (49, True), (36, True), (57, True), (7, False), (70, False), (15, False)]:
            counts = tuple(sorted([42, 56, 24, count]))
            self.assertIs(is_court_paper(SQUARE_TWENTY_ONE, with_faults(SQUARE_TWENTY_ONE, lot, counts)), told, count)
            self.assertIs(shows(SQUARE_TWENTY_ONE, lot, counts), told)

    def test_counts_of_thirty_digits_and_below_zero(self):
        self.assertIs(is_court_paper(TURNS, with_faults(TURNS, (6,), (-BIG - 3, BIG + 2))), True)
        self.assertIs(is_court_paper(TURNS, with_faults(TURNS, (6,), (-BIG - 3, BIG + 3))), False)

    def test_other_lots_have_no_papers(self):
        lots = [(low,) for low in range(3, 37)] + [(low, high) for low in range(3, 13) for high in range(4, 13)]
        for machine in [TURNS, SQUARE, TWENTY, SQUARE_NINE, RING6]:
            faults = tuple(count for count in range(-40, 40) if not is_batch_number(machine, count))
            for lot in lots + [()]:
                if is_lot(lot):
                    told = is_court_paper(machine, with_faults(machine, lot, faults))
                    self.assertIs(told, lot == moduli(machine))
                    self.assertIs(shows(machine, lot, faults), told)

    def test_a_huge_lot_is_no_trouble(self):
        huge = (orders(TURNS) * (10 ** 29 + 7) * (10 ** 25 + 13),)
        self.assertIs(is_court_paper(TURNS, (huge, GOOD[1])), False)

    def test_what_is_none(self):
        lot, (first, second) = GOOD
        for value in oddities() + [0, (), (lot,), (lot, (first, second), 0), [lot, (first, second)],
                                   ([6], (first, second)), (lot, [first, second]), (lot, (list(first), second)),
                                   (lot, (first,)), (lot, (second,)), (lot, ()), (lot, (second, first)),
                                   (lot, (first, first, second)), (lot, None), (None, (first, second)), (6, first),
                                   ((6.0,), (first, second)), ((2, 3), (first, second)), (lot, first),
                                   (lot, (first, second[:3])), (lot, (first, second + (0,))),
                                   (lot, (first, (3.0, (0,), (1,), 0))), (lot, (first, (3, [0], (1,), 0))),
                                   (lot, (first, (3, (0,), (1,), False))), (lot, (first, (3, (0,), (1,), 3))),
                                   (lot, (first, second, (6, (0,), (1,), 0))), (lot, (first, second, None)),
                                   (lot, ((True, (0,), (1,), 0), first, second))]:
            self.assertIs(is_court_paper(TURNS, value), False, value)

    def test_further_faults_do_no_harm(self):
        more = ((-1, (0,), (1,), 0),) + GOOD[1] + ((3, (0,), (1,), 1), (8, (0,), (1,), 0))
        self.assertIs(is_court_paper(TURNS, (GOOD[0], more)), True)
        self.assertIs(is_court_paper(TURNS, (GOOD[0], more[::-1])), False)
        # A power of a prime cannot be parted, but some count must be a multiple of 4 / 2.
        self.assertIs(is_court_paper(SQUARE, with_faults(SQUARE, (4,), (2, 3))), True)
        self.assertIs(is_court_paper(SQUARE, with_faults(SQUARE, (4,), (3,))), False)


class WorkTest(unittest.TestCase):

    def test_a_machine_that_took_long(self):
        lot, faults = court_paper(FOUR_TWENTY_ONE)
        self.assertEqual(lot, (4, 21))
        self.assertTrue(shows(FOUR_TWENTY_ONE, lot, [fault[0] for fault in faults]))
        other = ((12, (3, 3), (0,), 1), (28, (3, 3), (0,), 1), (42, (1, 2), (1,), 0))
        for some in [faults, other]:
            self.assertIs(is_court_paper(FOUR_TWENTY_ONE, (lot, some)), True)
            for at in range(len(some)):
                fewer = some[:at] + some[at + 1:]
                self.assertIs(is_court_paper(FOUR_TWENTY_ONE, (lot, fewer)),
                              shows(FOUR_TWENTY_ONE, lot, [fault[0] for fault in fewer]))
            for wrong in [(), (4,), (21,), (3, 4, 7), (12, 7), (7, 12), (84,), (3, 28), (4, 7), (8, 21), (4, 63)]:
                self.assertIs(is_court_paper(FOUR_TWENTY_ONE, (wrong, some)), False)
        for at in range(3):
            self.assertIs(is_court_paper(FOUR_TWENTY_ONE, (lot, other[:at] + other[at + 1:])), False)

    def test_little_is_done(self):
        # Where powers were made anew for each count, this took from half a million to a million lines.
        for machine in [FOUR_TWENTY_ONE, TEN_TWENTY_ONE]:
            lot, faults = court_paper(machine)
            self.assertLess(work_of(court_paper, machine), 100000)
            for value in [(lot, faults), (lot, faults[1:]), (lot, faults[::-1]), (lot[1:], faults), ((42,), faults), None,
                          ((10 ** 29 + 1, 10 ** 30), faults), (lot, faults + (None,)), (lot, ()), ((), ())]:
                self.assertLess(work_of(is_court_paper, machine, value), 100000)
        for machine in [OVER_400, HUGE]:
            self.assertLess(work_of(court_paper, machine), 100000)
            self.assertLess(work_of(is_court_paper, machine, GOOD), 100000)
