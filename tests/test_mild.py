"""Points 36 and 37: mild machines, which patterns are alike, batch moduli."""

import math
import unittest
from itertools import product

from batchnumbers.batches import moduli
from batchnumbers.changes import change_of, changes, middle, never_matters, orders, power
from batchnumbers.machines import Machine
from batchnumbers.mild import (alike, alike_fault, batch_moduli, crossing_number, gap, is_alike_fault, is_mild,
                               is_mild_fault, mild_fault)
from batchnumbers.patterns import crossings, row_of, tally
from batchnumbers.shelves import shelf_machine
from tests.helpers import (BIG, CUBE8, EIGHTS, EVEN4, FIVES, HUGE, KLEIN, LARGE, OVER_400, PAIR, QUATERNION, RING4, RING6,
                           SMALL, SQUARE, SQUARE_NINE, SQUARE_PAIR, STILL, THREES, TRIVIAL, TURNS, TWENTY, TWO, beside,
                           error_of, oddities, of_changes, of_cycles, then, times)
from tests.test_knotted import EXTRA, PAULI
from tests.test_patterns import LONG, NO_PATTERNS

REFUSED = ("Refused", 0)
RING3 = of_changes(of_cycles(3, (0, 1, 2)))
FOURS = shelf_machine((4, (0, 1, 2, 3)))
# Mild, with 648 changes.
MILD_OVER_400 = beside(SQUARE_NINE, RING3)
MILD = [TRIVIAL, STILL, PAIR, SQUARE, TWO, RING4, RING6, KLEIN, CUBE8, QUATERNION, THREES, SQUARE_PAIR, SQUARE_NINE, PAULI,
        EXTRA, FOURS]
WILD = [TURNS, FIVES, EIGHTS, EVEN4, TWENTY]
NUMBERS = {1: [TRIVIAL, STILL, PAIR, TWO, RING4, RING6, KLEIN, CUBE8], 2: [SQUARE, QUATERNION, SQUARE_PAIR, PAULI, EXTRA],
           3: [THREES], 4: [FOURS], 6: [SQUARE_NINE, MILD_OVER_400]}


def words_of(machine, rows):
    """The changes of u v w v u and of v u w u v."""
    u, v, w = rows
    return change_of(machine, u + v + w + v + u), change_of(machine, v + u + w + u + v)


def is_fault(machine, fault):
    """Whether this is a mild fault, by the words of the document."""
    there, other = words_of(machine, fault[:3])
    return type(fault) is tuple and len(fault) == 4 and there[fault[3]] != other[fault[3]]


def word_change(pattern, steps, states):
    change = tuple(range(states))
    for letter in pattern:
        change = then(change, steps[letter])
    return change


def plain_alike(machine, one, other):
    """Whether two patterns are alike, by trying all changes for the letters."""
    letters = sorted(set(one + other))
    for chosen in product(changes(machine), repeat=len(letters)):
        steps = dict(zip(letters, chosen))
        if word_change(one, steps, machine.states) != word_change(other, steps, machine.states):
            return False
    return True


def is_unlike(machine, one, other, fault):
    """Whether this is an alike fault, by the words of the document."""
    rows, state = fault
    if type(fault) is not tuple or type(rows) is not tuple or len(rows) != max((-1,) + one + other) + 1:
        return False
    return (change_of(machine, row_of(machine, one, rows))[state]
            != change_of(machine, row_of(machine, other, rows))[state])


class ExamplesTest(unittest.TestCase):

    def test_chapter_10(self):
        square = Machine(2, [(1, 0), (2, 3), (3, 2), (0, 1)])
        self.assertEqual(
            (crossings((1, 0, 1, 0)), gap((1, 2, 3, 0), (0, 3, 2, 1)), crossing_number(square),
             alike(square, (1, 0, 1, 0), (0, 1, 0, 1))),
            (((0, 1, 3),), (2, 3, 0, 1), 2, True))
        self.assertEqual((batch_moduli(12), is_mild(Machine(2, [(1, 0), (2, 2), (0, 1)]))), ((3, 8), False))


class GapTest(unittest.TestCase):

    def test_behind_one_followed_by_other(self):
        for machine in [TRIVIAL, TURNS, SQUARE, FIVES, EVEN4]:
            for one in changes(machine):
                for other in changes(machine):
                    self.assertEqual(then(then(one, other), gap(one, other)), then(other, one))
        self.assertEqual(gap(one=(1, 0), other=(1, 0)), (0, 1))

    def test_what_are_no_two_changes(self):
        for value in oddities() + [0, (), (0, 0), (1, 2), [0, 1], (0, True), (0, 1.0), (0,), (0, 1, 2)]:
            self.assertEqual(error_of(gap, (0, 1), value), ("InvalidChange", 0), value)
            self.assertEqual(error_of(gap, value, (1, 0)), ("InvalidChange", 0), value)
            self.assertEqual(error_of(gap, value, None), ("InvalidChange", 0), value)


class MildTest(unittest.TestCase):

    def test_gaps_of_any_two_changes_lie_in_the_middle(self):
        for machine in SMALL + [PAULI, EXTRA, FOURS]:
            inner = set(middle(machine))
            told = all(gap(one, other) in inner for one in changes(machine) for other in changes(machine))
            self.assertIs(is_mild(machine), told)

    def test_known_ones(self):
        for machine in MILD + [MILD_OVER_400]:
            self.assertIs(is_mild(machine), True)
        for machine in WILD + [OVER_400, HUGE] + [machine for machine in LARGE if machine != SQUARE_NINE]:
            self.assertIs(is_mild(machine), False)
        self.assertIs(is_mild(machine=PAIR), True)
        self.assertEqual(error_of(changes, MILD_OVER_400), REFUSED)

    def test_a_fault_just_where_it_is_not_mild(self):
        for machine in MILD + WILD + LARGE + [MILD_OVER_400, OVER_400, HUGE]:
            fault = mild_fault(machine)
            self.assertIs(fault is None, is_mild(machine))
            if fault is not None:
                self.assertTrue(is_fault(machine, fault))
                self.assertIs(is_mild_fault(machine, fault), True)
                self.assertEqual(mild_fault(machine), fault)

    def test_faults_of_all_short_rows(self):
        rows = [(), (0,), (1,), (0, 1), (1, 1, 0)]
        for machine in [TURNS, SQUARE, FIVES, HUGE]:
            for told in product(rows, repeat=3):
                there, other = words_of(machine, told)
                for state in range(machine.states):
                    self.assertIs(is_mild_fault(machine, told + (state,)), there[state] != other[state])

    def test_single_commands_will_do(self):
        for machine in WILD + MILD + [HUGE]:
            rows = [(command,) for command in range(machine.commands)]
            found = any(words_of(machine, (u, v, w))[0] != words_of(machine, (u, v, w))[1]
                        for u in rows for v in rows for w in rows + [()])
            self.assertIs(found, not is_mild(machine))

    def test_mild_machines_have_no_fault(self):
        rows = [(), (0,), (1,), (0, 1), (1, 0, 0), (0, 1, 1, 1)]
        for machine in [SQUARE, QUATERNION, THREES, FOURS, MILD_OVER_400]:
            for told in product(rows, repeat=3):
                for state in range(machine.states):
                    self.assertIs(is_mild_fault(machine, told + (state,)), False)

    def test_values_that_are_none(self):
        u, v, w, state = mild_fault(TURNS)
        self.assertIs(is_mild_fault(TURNS, (u, v, w, state)), True)
        for value in oddities() + [0, (), (u, v, w), (u, v, w, state, 0), [u, v, w, state], (list(u), v, w, state),
                                   (u, list(v), w, state), (u, v, list(w), state), (u, v, w, 3), (u, v, w, -1),
                                   (u, v, w, True), (u, v, w, 0.0), (u, v, w, None), ((2,), v, w, state), (u, (-1,), w, state),
                                   (u, v, (True,), state), ((False,), v, w, state), (0, 1, (), state), (None, v, w, state),
                                   ((u, v, w), state), (u, u, w, state), ((), v, w, state)]:
            self.assertIs(is_mild_fault(TURNS, value), False, value)
        self.assertIs(is_mild_fault(machine=SQUARE, value=((0,), (1,), (), 0)), False)

    def test_long_rows(self):
        u, v, w = (0, 1) * 500, (1,) * 999 + (0,), (0,) * 1000
        there, other = words_of(HUGE, (u, v, w))
        for state in range(16):
            self.assertIs(is_mild_fault(HUGE, (u, v, w, state)), there[state] != other[state])


class CrossingNumberTest(unittest.TestCase):

    def test_powers_of_all_gaps(self):
        for machine in MILD:
            if machine != SQUARE_NINE:
                idle = tuple(range(machine.states))
                gaps = {gap(one, other) for one in changes(machine) for other in changes(machine)}
                least = 1
                while any(times(told, least) != idle for told in gaps):
                    least += 1
                self.assertEqual(crossing_number(machine), least)

    def test_known_ones(self):
        for number, machines in NUMBERS.items():
            for machine in machines:
                self.assertEqual(crossing_number(machine), number)
        self.assertEqual(crossing_number(machine=SQUARE), 2)

    def test_order_never_matters_exactly_if_it_is_1(self):
        for machine in MILD + WILD + [MILD_OVER_400]:
            self.assertIs(is_mild(machine) and crossing_number(machine) == 1, never_matters(machine))

    def test_powers_of_all_changes_in_the_middle(self):
        for machine in MILD:
            number = crossing_number(machine)
            inner = set(middle(machine))
            for count in range(1, number + 1):
                self.assertIs(all(power(change, count) in inner for change in changes(machine)), count == number)

    def test_orders_are_multiples(self):
        for machine in MILD:
            number, whole = crossing_number(machine), orders(machine)
            self.assertEqual(whole % number, 0)
            if number % 2 == 0:
                self.assertEqual(whole % (2 * number), 0)

    def test_there_is_one_for_all_such_numbers(self):
        for number in range(1, 5):
            for more in range(1, 6):
                whole = number * more * (2 if number % 2 == 0 else 1)
                machine = beside(shelf_machine((number, tuple(range(number)))), of_changes(of_cycles(whole, tuple(range(whole)))))
                self.assertEqual(crossing_number(machine), number)
                if number ** 3 * whole <= 400:
                    self.assertEqual(orders(machine), whole)

    def test_what_is_not_mild(self):
        for machine in WILD + [OVER_400, HUGE]:
            self.assertEqual(error_of(crossing_number, machine), ("Refused", 1))


class AlikeTest(unittest.TestCase):

    def test_by_trying_all_changes(self):
        for machine, patterns in [
                (SQUARE, list(product(range(2), repeat=4)) + [(), (1,), (0,) * 4, (1, 0, 1, 0, 0, 0), (1,) * 5]),
                (QUATERNION, list(product((3, 6), repeat=3)) + [(), (3, 3, 3, 3), (6, 3, 6, 3), (3, 6, 3, 6)]),
                (RING6, list(product((0, 7), repeat=3)) + [(), (0,) * 6, (7,) * 7, (0, 7) * 6]),
                (TRIVIAL, [(), (0,), (7, 0), (1, 2, 3)]), (PAIR, list(product(range(2), repeat=3)) + [()])]:
            for one in patterns:
                for other in patterns:
                    self.assertIs(alike(machine, one, other), plain_alike(machine, one, other))

    def test_three_letters(self):
        patterns = [(0, 1, 2), (2, 1, 0), (2, 1, 0, 2, 1, 0), (0, 0, 1, 1, 2, 2), (2, 2, 1, 1, 0, 0), (1, 2, 0, 0, 2, 1),
                    (0, 1, 2, 0, 1, 2)]
        for one in patterns:
            for other in patterns:
                self.assertIs(alike(SQUARE, one, other), plain_alike(SQUARE, one, other))

    def test_by_tally_and_crossings(self):
        patterns = [tuple(letter * 2 for letter in word) for word in product(range(3), repeat=3)] + [
            LONG, LONG[::-1], (), (0,) * 12, (0, 2) * 6, (2, 0) * 6, (4,) * 12 + (0,) * 12, (0,) * 12 + (4,) * 12]
        for machine in [SQUARE_NINE, FOURS, THREES, KLEIN]:
            number, whole = crossing_number(machine), orders(machine)
            for one in patterns[::3] + patterns[-6:]:
                for other in patterns[::4] + patterns[-6:]:
                    told = all((one.count(letter) - other.count(letter)) % whole == 0 for letter in range(8))
                    first = {entry[:2]: entry[2] for entry in crossings(one)}
                    second = {entry[:2]: entry[2] for entry in crossings(other)}
                    for pair in list(first) + list(second):
                        told = told and (first.get(pair, 0) - second.get(pair, 0)) % number == 0
                    self.assertIs(alike(machine, one, other), told)

    def test_the_same_tally_and_crossings(self):
        pairs = [((0, 1, 2, 1, 0), (1, 0, 2, 0, 1)), ((0, 1, 1, 0), (1, 0, 0, 1)), ((3, 5, 7, 5, 3), (5, 3, 7, 3, 5))]
        for one, other in pairs:
            self.assertEqual((tally(one), crossings(one)), (tally(other), crossings(other)))
            for machine in MILD:
                self.assertIs(alike(machine, one, other), True)

    def test_rounds_and_batches(self):
        for number, machines in NUMBERS.items():
            for machine in machines:
                if machine != MILD_OVER_400:
                    for many in range(14):
                        told = many * (many - 1) // 2 % number == 0
                        self.assertIs(alike(machine, (0, 1) * many, (0,) * many + (1,) * many), told)

    def test_faults(self):
        patterns = [(), (0,), (1, 0), (0, 1), (1, 0, 1, 0), (0, 0, 1, 1), (2, 1, 0), (0, 1, 2), (7, 3, 7, 3), (3, 3, 7, 7),
                    (0,) * 4, (0,) * 12, (5,) * 12 + (2,) * 12, (2,) * 12 + (5,) * 12, (5, 2) * 12, LONG, LONG[::-1]]
        for machine in MILD:
            for one in patterns:
                for other in patterns[::2] + [one]:
                    fault = alike_fault(machine, one, other)
                    self.assertIs(fault is None, alike(machine, one, other))
                    if fault is not None:
                        self.assertTrue(is_unlike(machine, one, other, fault))
                        self.assertIs(is_alike_fault(machine, one, other, fault), True)
                        self.assertEqual(alike_fault(machine, one, other), fault)
        self.assertIsNone(alike_fault(machine=SQUARE, one=(), other=()))

    def test_faults_of_all_short_rows(self):
        rows = [(), (0,), (1,), (0, 1), (1, 1, 0)]
        for machine in [SQUARE, TURNS, HUGE]:
            for one, other in [((1, 0), (0, 1)), ((1, 0, 1), (0,)), ((), (1,)), ((0, 0), (1, 1))]:
                for told in product(rows, repeat=2):
                    for state in range(machine.states):
                        self.assertIs(is_alike_fault(machine, one, other, (told, state)),
                                      is_unlike(machine, one, other, (told, state)))

    def test_values_that_are_none(self):
        self.assertIs(is_alike_fault(SQUARE, (1, 0), (0, 1), (((0,), (1,)), 0)), True)
        for value in oddities() + [0, (), ((), 0), (((0,), (1,)),), (((0,), (1,)), 0, 0), [((0,), (1,)), 0],
                                   ([(0,), (1,)], 0), (([0], (1,)), 0), (((0,), [1]), 0), (((0,), (1,)), 4),
                                   (((0,), (1,)), -1), (((0,), (1,)), False), (((0,), (1,)), 0.0), (((0,), (1,)), None),
                                   (((0,), (2,)), 0), (((-1,), (1,)), 0), (((False,), (1,)), 0), (((0,), (True,)), 0),
                                   ((0, 1), 0), (((0,),), 0), (((0,), (1,), ()), 0), ((None, (1,)), 0),
                                   (((0,), (0,)), 0), (((), (1,)), 0)]:
            self.assertIs(is_alike_fault(SQUARE, (1, 0), (0, 1), value), False, value)
        for value in [((), 0), ((), 3), (((0,),), 0), None]:
            self.assertIs(is_alike_fault(machine=SQUARE, one=(), other=(), value=value), False)
        # Numbers without a letter have rows, too.
        self.assertIs(is_alike_fault(SQUARE, (2,), (), (((0,), (0,), (1,)), 1)), True)
        self.assertIs(is_alike_fault(SQUARE, (2,), (), (((1,),), 1)), False)

    def test_long_rows(self):
        rows = tuple((0, 1) * (300 + at) + (1,) * (400 - 2 * at) for at in range(8))
        for state in [0, 9, 15]:
            self.assertIs(is_alike_fault(HUGE, LONG, LONG[::-1], (rows, state)),
                          is_unlike(HUGE, LONG, LONG[::-1], (rows, state)))

    def test_what_is_refused(self):
        good = (((0,), (1,)), 0)
        for value in NO_PATTERNS:
            for function, more in [(alike, ()), (alike_fault, ()), (is_alike_fault, (good,)), (is_alike_fault, (None,))]:
                self.assertEqual(error_of(function, SQUARE, value, (0, 1), *more), ("InvalidQuestion", 1), value)
                self.assertEqual(error_of(function, SQUARE, (0, 1), value, *more), ("InvalidQuestion", 2), value)
                self.assertEqual(error_of(function, SQUARE, value, value, *more), ("InvalidQuestion", 1), value)

    def test_the_machine_ahead_of_the_patterns(self):
        for function in [alike, alike_fault]:
            for one, other in [((0, 1), (1, 0)), (None, (0,)), ((), None), ((), ())]:
                for machine in [OVER_400, HUGE, MILD_OVER_400]:
                    self.assertEqual(error_of(function, machine, one, other), REFUSED)
                for machine in WILD:
                    self.assertEqual(error_of(function, machine, one, other), ("Refused", 1))

    def test_alike_faults_of_all_machines(self):
        for machine in WILD + [HUGE, OVER_400, MILD_OVER_400]:
            self.assertTrue(any(is_alike_fault(machine, (0, 1), (1, 0), (((0,), (1,)), state))
                                for state in range(machine.states)))
            self.assertIs(is_alike_fault(machine, (0, 1), (0, 1), (((0,), (1,)), 0)), False)
            self.assertEqual(error_of(is_alike_fault, machine, None, None, None), ("InvalidQuestion", 1))
            self.assertEqual(error_of(is_alike_fault, machine, (), [], None), ("InvalidQuestion", 2))
        for machine in WILD:
            u, v, w, state = mild_fault(machine)
            self.assertIs(is_alike_fault(machine, (0, 1, 2, 1, 0), (1, 0, 2, 0, 1), ((u, v, w), state)), True)


class BatchModuliTest(unittest.TestCase):

    def test_by_the_words_of_the_document(self):
        for number in range(1, 1200):
            told = batch_moduli(number)
            self.assertEqual(list(told), sorted(told))
            self.assertEqual(math.prod(told), number if number % 2 else 2 * number)
            for modulus in told:
                primes = [prime for prime in range(2, modulus + 1) if modulus % prime == 0]
                self.assertTrue(all(modulus % prime == 0 and prime % primes[0] == 0 for prime in primes))
            self.assertTrue(all(math.gcd(one, other) == 1 for at, one in enumerate(told) for other in told[at + 1:]))

    def test_known_ones(self):
        for number, lot in [(1, ()), (2, (4,)), (3, (3,)), (4, (8,)), (6, (3, 4)), (30, (3, 4, 5)), (10 ** 6, (128, 15625)),
                            (999983, (999983,)), (999999, (7, 11, 13, 27, 37)), (524288, (1048576,)),
                            (720720, (5, 7, 9, 11, 13, 32)), (994009, (994009,))]:
            self.assertEqual(batch_moduli(number), lot)
        self.assertEqual(batch_moduli(number=12), (3, 8))

    def test_the_moduli_of_mild_machines(self):
        for machine in MILD:
            self.assertEqual(moduli(machine), batch_moduli(crossing_number(machine)))

    def test_what_is_no_integer_from_1_on(self):
        for value in oddities() + [0, -1, -BIG, (), [3], (3,), 1.0]:
            self.assertEqual(error_of(batch_moduli, value), ("InvalidQuestion", 0), value)
