"""Points 47, 48 and 49: possible tellings, all possible lots, what is sure."""

import math
import unittest

from batchnumbers.batches import is_batch_number, moduli
from batchnumbers.folding import shelving_for
from batchnumbers.following import follows, lot_of
from batchnumbers.lots import is_coarser
from batchnumbers.rests import fits, is_lot
from batchnumbers.tellings import is_possible, is_possible_lot, possible_lot, possible_lots, sureness
from batchnumbers.walks import jump_fault
from tests.helpers import BIG, LARGE, SMALL, error_of, oddities
from tests.test_following import NO_COUNTS
from tests.test_rests import NO_LOTS

PLAIN = [(), [], (0,), [1], (1, 0, 0), [0, 1] * 10]
YES = [(2,), [-1], (3,), (-2, 0), (4,), (4, 9), [12, 13], (13, 12), (-5,), (6, 10), (10,), (15,), (16, 1), (-11, 0), (24, 25),
       (30,), (31, 30), (36, 37), [60], (21, 28, -6)]
NO = [(), [], (2,), (3,), [12], (0,), (5, 1), (2, 3, 5), (4,), (-1,), [6, 7], (9, 10), (12, 24), (-7, 8, 40), (25,), (61, -59)]
# The products of the moduli up to 2000 with the most possible lots.
MANY = [1260, 1560, 1680, 1848, 1980, 2000, 1024, 1729, 1999]


def is_told(lot, yes, no):
    return all(fits(lot, count) for count in yes) and not any(fits(lot, count) for count in no)


def lots_among(candidates):
    """All lots with moduli among these integers, by trying all that have no common divisor."""
    found = [()]
    for lot in found:
        for modulus in candidates:
            if modulus > max(lot, default=0) and math.gcd(modulus, math.prod(lot)) == 1:
                found.append(lot + (modulus,))
    return found


def plain_lots(yes, no):
    """All possible lots, for tellings that are not all 0 and 1; each modulus leaves 0 or 1 by each count."""
    most = min(max(abs(count), abs(count - 1)) for count in yes if count not in (0, 1))
    candidates = [modulus for modulus in range(3, most + 1) if all(count % modulus < 2 for count in yes)]
    return sorted(lot for lot in lots_among(candidates) if is_told(lot, yes, no))


def all_tellings():
    return [(yes, no) for yes in YES for no in NO]


class ExamplesTest(unittest.TestCase):

    def test_chapter_13(self):
        self.assertEqual(
            (is_possible((4, 9), (12,)), possible_lots((13, 12), (3,)), sureness((13, 12), (3,), 4),
             sureness((13, 12), (3,), 25)),
            (False, ((3, 4), (4,), (6,), (12,)), None, True))


class PossibleTest(unittest.TestCase):

    def test_exactly_if_there_is_a_possible_lot(self):
        for yes, no in all_tellings():
            self.assertIs(is_possible(yes, no), plain_lots(yes, no) != [])
            self.assertIs(is_possible(list(yes), tuple(no)), not any(follows(yes, count) for count in no))
        self.assertIs(is_possible(yes=(2,), no=()), True)

    def test_counts_that_are_all_0_or_1(self):
        for yes in PLAIN:
            for no, told in [((), True), ((0,), False), ([1], False), ((2,), True), ([-1, 2, 3, 4, 5], True), ((5, 0), False),
                             ((BIG, -BIG), True), ((3, BIG, 1), False), (tuple(range(2, 22)), True)]:
                self.assertIs(is_possible(yes, no), told)
                lot = possible_lot(yes, no)
                self.assertIs(lot is not None, told)
                if told:
                    self.assertTrue(is_lot(lot) and is_told(lot, yes, no))

    def test_some_possible_lot(self):
        for yes, no in all_tellings():
            told = possible_lot(yes, no)
            if is_possible(yes, no):
                self.assertTrue(is_lot(told) and is_told(told, yes, no))
                self.assertIs(is_possible_lot(yes, no, told), True)
                self.assertEqual(possible_lot(list(yes), list(no)), told)
            else:
                self.assertIsNone(told)
        self.assertIsNone(possible_lot(yes=(4, 9), no=(12,)))

    def test_the_lot_of_the_first_is_possible_and_each_other_one_coarser(self):
        for yes, no in all_tellings():
            if is_possible(yes, no):
                self.assertIs(is_possible_lot(yes, no, lot_of(yes)), True)
                self.assertTrue(all(is_coarser(lot, lot_of(yes)) for lot in plain_lots(yes, no)))

    def test_twenty_counts_of_thirty_digits(self):
        primes = [prime for prime in range(2, 72) if all(prime % low for low in range(2, prime))]
        whole = math.prod(primes[:20])
        far = [whole * (10 ** 29 // whole - at) + at % 2 for at in range(20)]
        self.assertEqual({len(str(count)) for count in far}, {29})
        for yes, no in [((), far), ([0, 1] * 10, far), ((), [-count for count in far]), ((), [2, -1] * 10),
                        (far[:1], far[1:]), (far, [2, -1] * 10), ([BIG] * 20, [BIG + at for at in range(2, 22)])]:
            lot = possible_lot(yes, no)
            self.assertTrue(is_lot(lot) and is_told(lot, yes, no))
            self.assertIs(is_possible(yes, no), True)
            self.assertIs(is_possible_lot(yes, no, lot), True)
        self.assertIs(is_possible(far, far[3:4]), False)
        self.assertIs(is_possible([2] + far[:19], far), False)
        self.assertIsNone(possible_lot(far, far[3:4]))

    def test_machines(self):
        for machine in SMALL + LARGE:
            good = [count for count in range(-40, 60) if is_batch_number(machine, count)]
            bad = [count for count in range(-40, 60) if not is_batch_number(machine, count)]
            for yes, no in [(good[:20], bad[:20]), (good[::9], bad[::7]), (good[3:4], bad[-1:]), ((), bad[:5])]:
                self.assertIs(is_possible(yes, no), True)
                self.assertIs(is_possible_lot(yes, no, moduli(machine)), True)
                for count in range(-9, 12):
                    self.assertIn(sureness(yes, no, count), (None, is_batch_number(machine, count)))

    def test_machines_with_possible_lots(self):
        for yes, no in [((13, 12), (3,)), ((4,), (2,)), ([], (5, 8)), ((16,), (6,)), ((36, 37), (4, 9))]:
            # A count without a jump fault is a batch number of the shelving's machine.
            shelving = shelving_for(possible_lot(yes, no))
            self.assertTrue(all(jump_fault(shelving, count) is None for count in yes))
            self.assertFalse(any(jump_fault(shelving, count) is None for count in no))


class IsPossibleLotTest(unittest.TestCase):

    def test_all_small_lots(self):
        lots = lots_among(range(3, 14))
        for yes, no in all_tellings()[::3] + [(yes, no) for yes in PLAIN for no in NO]:
            for lot in lots[::5] + lots[:12]:
                self.assertIs(is_possible_lot(yes, no, lot), is_told(lot, yes, no))
        self.assertIs(is_possible_lot(yes=(), no=(2,), value=()), False)
        self.assertIs(is_possible_lot((), (), ()), True)

    def test_any_number_of_moduli(self):
        primes = tuple(prime for prime in range(3, 1200) if all(prime % low for low in range(2, 40) if low < prime))
        self.assertGreater(len(primes), 190)
        self.assertIs(is_possible_lot((0, 1), (2, BIG), primes), True)
        self.assertIs(is_possible_lot((0, 2), (), primes), False)
        self.assertIs(is_possible_lot((math.prod(primes[:9]),), [], primes[:9]), True)
        self.assertIs(is_possible_lot((), (BIG,), (BIG + 7,)), True)

    def test_what_is_no_lot(self):
        for value in NO_LOTS + oddities():
            self.assertIs(is_possible_lot((), (), value), False, value)
            self.assertIs(is_possible_lot((0, 1), [5], value), False, value)


class PossibleLotsTest(unittest.TestCase):

    def test_by_trying_all(self):
        for yes, no in all_tellings():
            told = possible_lots(yes, no)
            self.assertEqual(told, tuple(plain_lots(yes, no)))
            self.assertEqual(type(told), tuple)
            self.assertTrue(all(type(lot) is tuple for lot in told))
            self.assertIs(told == (), not is_possible(yes, no))
        self.assertEqual(possible_lots(yes=(2,), no=()), ((),))
        self.assertEqual(possible_lots((2,), (5,)), ())
        self.assertEqual(possible_lots((12, 13), ()), ((), (3,), (3, 4), (4,), (6,), (12,)))

    def test_products_up_to_2000(self):
        for whole in MANY:
            divisors = [modulus for modulus in range(3, whole + 1) if whole % modulus == 0]
            lots = sorted(lots_among(divisors))
            self.assertEqual(possible_lots([whole, whole + 1], ()), tuple(lots))
            for no in [(whole // 3,), (2, 5, whole // 2), tuple(range(2, 22))]:
                self.assertEqual(possible_lots([whole, whole + 1], no), tuple(lot for lot in lots if is_told(lot, (), no)))

    def test_several_moduli(self):
        # The lot of these is (5, 16, 21), its product 1680.
        yes = (1680, 1681, 336, 945)
        self.assertEqual(lot_of(yes), (5, 16, 21))
        divisors = [modulus for modulus in range(3, 22) if any(greater % modulus == 0 for greater in (5, 16, 21))]
        self.assertEqual(possible_lots(yes, ()), tuple(sorted(lots_among(divisors))))

    def test_all_of_them_0_or_1(self):
        for yes in PLAIN:
            for no in [(), (0,), (2,), [5, 7]]:
                self.assertEqual(error_of(possible_lots, yes, no), ("Refused", 0))


class SurenessTest(unittest.TestCase):

    def test_by_all_possible_lots(self):
        for yes, no in all_tellings():
            lots = plain_lots(yes, no)
            for count in range(-6, 14):
                if lots:
                    told = {fits(lot, count) for lot in lots}
                    self.assertIs(sureness(yes, no, count), told.pop() if len(told) == 1 else None)
                else:
                    self.assertEqual(error_of(sureness, yes, no, count), ("Refused", 1))

    def test_counts_that_are_all_0_or_1(self):
        for yes in PLAIN:
            for no in [(), (5,), [2, 3, BIG]]:
                for count in [-3, 0, 1, 2, 4, 5, BIG, -BIG]:
                    told = True if count in (0, 1) else None
                    # If it were a batch number, so would be all that follow from it.
                    if any(follows((count,), other) for other in no):
                        told = False
                    self.assertIs(sureness(yes, no, count), told)
            self.assertEqual(error_of(sureness, yes, (5, 0), 1), ("Refused", 1))

    def test_some_integer_is_not_sure_if_two_lots_are_possible(self):
        for yes, no in all_tellings():
            lots = plain_lots(yes, no)
            if lots:
                unsure = [count for count in range(2, math.prod(lot_of(yes)) + 2) if sureness(yes, no, count) is None]
                self.assertIs(len(lots) > 1, len(unsure) > 0)

    def test_far_counts(self):
        self.assertIs(sureness(yes=(12, 13), no=(3,), count=12 * BIG + 1), True)
        self.assertIs(sureness((12, 13), (3,), 12 * BIG + 3), False)
        self.assertIsNone(sureness((12, 13), (3,), 12 * BIG + 4))
        self.assertIs(sureness((2,), (), -BIG), True)
        self.assertIs(sureness([BIG, BIG + 1] * 10, [2] * 20, BIG * BIG), True)


class RefusedTest(unittest.TestCase):

    def test_the_tellings_ahead_of_all_else(self):
        functions = [(is_possible, ()), (possible_lot, ()), (is_possible_lot, ((3,),)), (is_possible_lot, (None,)),
                     (possible_lots, ()), (sureness, (5,))]
        for value in NO_COUNTS:
            for function, more in functions:
                for other in [(), (3,), (0, 1), value]:
                    self.assertEqual(error_of(function, value, other, *more), ("InvalidQuestion", 0), value)
                for yes in [(), (0, 1), (3, 4), [2]]:
                    self.assertEqual(error_of(function, yes, value, *more), ("InvalidQuestion", 1), value)
        for value in oddities() + [(), [3]]:
            for function, more in functions:
                self.assertEqual(error_of(function, (2,), [2, value], *more), ("InvalidQuestion", 1), value)
                self.assertEqual(error_of(function, [2, value], (2, value), *more), ("InvalidQuestion", 0), value)
