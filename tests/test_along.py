"""Points 33 and 34: blocks that are moved, what goes along, rounds."""

import math
import unittest
from itertools import combinations, permutations, product

from batchnumbers.along import is_move_fault, least_along, least_together, may_move, move_fault, rounds
from batchnumbers.batches import moduli
from batchnumbers.changes import change_of, changes, middle, orders, power
from batchnumbers.machines import Machine
from batchnumbers.splitting import go_along
from tests.helpers import (BIG, EIGHTS, EXACTLY_400, FIVES, HUGE, LARGE, OVER_400, PAIR, QUATERNION, RING6, SMALL, SQUARE,
                           SQUARE_NINE, SQUARE_TWENTY_ONE, THREES_FIVES, TRIVIAL, TURNS, TWENTY, error_of, oddities, times)
from tests.test_pieces import primes_of
from tests.test_turned import NO_ARRANGEMENTS, NO_COUNTS, in_order

REFUSED = ("Refused", 0)
NO_LISTS = oddities() + [0, [True, 1], (2, 3.0), (2, None), [2, "3"], ([2], 3), [[2, 3]], (2, (3,)), range(2)]


def both_orders(machine, counts, arrangement, steps):
    """The powers of the changes as they are numbered, and in the order of the arrangement."""
    powers = [times(step, count) for step, count in zip(steps, counts)]
    return in_order(machine.states, powers), in_order(machine.states, [powers[number] for number in arrangement])


def moves_all(machine, counts, arrangement):
    """Whether the powers of all changes may be moved so, by trying all."""
    for steps in product(changes(machine), repeat=len(counts)):
        one, other = both_orders(machine, counts, arrangement, steps)
        if one != other:
            return False
    return True


def is_fault(machine, counts, arrangement, fault):
    """Whether this is a move fault, by the words of the document, for counts that are not far from 0."""
    rows, state = fault
    if type(fault) is not tuple or type(rows) is not tuple or len(rows) != len(counts):
        return False
    if not all(type(row) is tuple for row in rows) or state not in range(machine.states):
        return False
    one, other = both_orders(machine, counts, arrangement, [change_of(machine, row) for row in rows])
    return one[state] != other[state]


class ExamplesTest(unittest.TestCase):

    def test_chapter_9(self):
        turns = Machine(2, [(1, 0), (2, 2), (0, 1)])
        self.assertEqual((may_move(turns, (2, 3, 0), (2, 0, 1)), may_move(turns, [2, 3, 4], (2, 0, 1))), (True, False))
        self.assertEqual(
            (least_along(turns, 2), least_along(turns, 3), least_along(turns, 0), least_together(turns), rounds(turns)),
            (2, 6, 1, 2, (6,)))
        square = Machine(2, [(1, 0), (2, 3), (3, 2), (0, 1)])
        self.assertEqual((moduli(square), rounds(square), least_together(square)), ((4,), (2,), 2))


class MayMoveTest(unittest.TestCase):

    def test_by_brute_force(self):
        for machine, most in [(PAIR, 3), (TURNS, 3), (SQUARE, 3), (QUATERNION, 2), (FIVES, 2)]:
            for many in range(1, most + 1):
                for counts in product((0, 1, 2, 3, -4), repeat=many):
                    for arrangement in permutations(range(many)):
                        self.assertIs(may_move(machine, counts, arrangement), moves_all(machine, counts, arrangement))

    def test_exactly_if_all_that_are_turned_round_go_along(self):
        for machine in [TURNS, SQUARE, FIVES, TWENTY, EIGHTS, SQUARE_NINE]:
            along = {(one, other): go_along(machine, one, other) for one in range(-2, 7) for other in range(-2, 7)}
            for counts in [(2, 3, 0, 4), (1, 2, 4, 6), [3, 3, 2, -2], (5, 0, -1, 2), (6, 6, 4, 4)]:
                for arrangement in permutations(range(4)):
                    turned = [(low, high) for low, high in combinations(range(4), 2)
                              if arrangement.index(low) > arrangement.index(high)]
                    self.assertIs(may_move(machine, counts, arrangement),
                                  all(along[counts[low], counts[high]] for low, high in turned))

    def test_one_number_and_twelve(self):
        self.assertIs(may_move(TURNS, [5], (0,)), True)
        self.assertIs(may_move(TURNS, (1,) * 12, tuple(range(12))), True)
        self.assertIs(may_move(TURNS, (1,) * 12, tuple(range(10)) + (11, 10)), False)
        self.assertIs(may_move(TURNS, (1,) * 10 + (6, 1), tuple(range(10)) + (11, 10)), True)
        self.assertIs(may_move(TURNS, (2, 4, -2, 8) * 3, tuple(range(11, -1, -1))), True)
        self.assertIs(may_move(machine=TURNS, counts=(2, 3), arrangement=(1, 0)), False)

    def test_thirty_digits(self):
        self.assertEqual(BIG % 6, 0)
        self.assertIs(may_move(TURNS, (BIG, 1), (1, 0)), True)
        self.assertIs(may_move(TURNS, (BIG + 2, 4 - BIG), (1, 0)), True)
        self.assertIs(may_move(TURNS, (BIG + 2, 3 - BIG), (1, 0)), False)


class MoveFaultTest(unittest.TestCase):

    def test_told_just_where_there_is_one(self):
        for machine in SMALL + [SQUARE_NINE]:
            for counts in [(1, 1), (2, 3), [2, 2], (1, 2, 3), (4, 0, 1), [-1, 5, 6], (3, 2, 2, 1)]:
                for arrangement in list(permutations(range(len(counts))))[:9]:
                    fault = move_fault(machine, counts, arrangement)
                    self.assertIs(fault is None, may_move(machine, counts, arrangement))
                    if fault is not None:
                        self.assertTrue(is_fault(machine, counts, arrangement, fault))
                        self.assertIs(is_move_fault(machine, counts, arrangement, fault), True)
                        self.assertEqual(move_fault(machine, tuple(counts), arrangement), fault)

    def test_larger_ones(self):
        for machine in LARGE + [EXACTLY_400]:
            for counts, arrangement in [((1,) * 12, tuple(range(11, -1, -1))), ((BIG + 1, 1 - BIG), (1, 0)),
                                        ((2, 3, 4, 5, 6, 7), (0, 1, 2, 4, 3, 5))]:
                fault = move_fault(machine, counts, arrangement)
                self.assertIs(fault is None, may_move(machine, counts, arrangement))
                if fault is not None:
                    self.assertIs(is_move_fault(machine, counts, arrangement, fault), True)
                    left = [count % orders(machine) for count in counts]
                    self.assertTrue(is_fault(machine, left, arrangement, fault))

    def test_all_short_rows(self):
        rows = [(), (0,), (1,), (0, 1), (1, 0, 0)]
        for counts in [(1, 1, 1), (2, 3, 1), (2, 2, 3), (-1, 0, 6)]:
            for arrangement in permutations(range(3)):
                for told in product(rows, repeat=3):
                    self.assertEqual([is_move_fault(TURNS, counts, arrangement, (told, state)) for state in range(3)],
                                     [is_fault(TURNS, counts, arrangement, (told, state)) for state in range(3)])

    def test_values_that_are_none(self):
        self.assertIs(is_move_fault(TURNS, [1, 1], (1, 0), (((0,), (1,)), 0)), True)
        for value in oddities() + [0, (), ((), 0), (((0,), (1,)),), (((0,), (1,)), 0, 0), [((0,), (1,)), 0],
                                   ([(0,), (1,)], 0), (([0], (1,)), 0), (((0,), [1]), 0), (((0,), (1,)), 3),
                                   (((0,), (1,)), -1), (((0,), (1,)), False), (((0,), (1,)), 0.0), (((0,), (1,)), None),
                                   (((0,), (2,)), 0), (((-1,), (1,)), 0), (((False,), (1,)), 0), (((0,), (True,)), 0),
                                   ((0, 1), 0), (((0,),), 0), (((0,), (1,), ()), 0), ((None, (1,)), 0),
                                   (((0,), (0,)), 0), (((), (1,)), 0)]:
            self.assertIs(is_move_fault(TURNS, [1, 1], (1, 0), value), False, value)
        self.assertIs(is_move_fault(machine=TURNS, counts=[2, 2], arrangement=(1, 0), value=(((0,), (1,)), 0)), False)
        self.assertIs(is_move_fault(TURNS, [1, 1], (0, 1), (((0,), (1,)), 0)), False)

    def test_counts_and_arrangements_that_are_none(self):
        for function, more in [(may_move, ()), (move_fault, ()), (is_move_fault, (None,)),
                               (is_move_fault, ((((0,), (1,)), 0),))]:
            for value in NO_LISTS:
                for arrangement in [(1, 0), (0,), None]:
                    self.assertEqual(error_of(function, TURNS, value, arrangement, *more), ("InvalidQuestion", 1), value)
            for value in NO_ARRANGEMENTS + [(0,), (0, 1, 2), (2, 0, 1)]:
                for counts in [(2, 3), [1, 1]]:
                    self.assertEqual(error_of(function, TURNS, counts, value, *more), ("InvalidQuestion", 2), value)
            for counts in [(), []]:
                for value in [(), (0,), None]:
                    self.assertEqual(error_of(function, TURNS, counts, value, *more), ("InvalidQuestion", 2), value)

    def test_too_many_changes_ahead_of_all_else(self):
        for machine in [OVER_400, HUGE]:
            for function, arguments in [(may_move, ((1, 1), (0, 1))), (may_move, (None, None)), (move_fault, ((1,), (0,))),
                                        (move_fault, (None, None)), (is_move_fault, ((1,), (0,), None)),
                                        (is_move_fault, (None, None, None)), (least_along, (0,)), (least_along, (None,)),
                                        (least_together, ()), (rounds, ())]:
                self.assertEqual(error_of(function, machine, *arguments), REFUSED)


class LeastTest(unittest.TestCase):

    def test_least_along(self):
        for machine in SMALL:
            for count in list(range(-4, 9)) + [BIG]:
                least = 1
                while not go_along(machine, count, least):
                    least += 1
                self.assertEqual(least_along(machine, count), least)
        self.assertEqual(least_along(machine=TURNS, count=-1), 6)

    def test_go_along_exactly_if_it_divides(self):
        for machine in [TRIVIAL, TURNS, SQUARE, FIVES, TWENTY, SQUARE_NINE, THREES_FIVES]:
            for one in range(-3, 13):
                least = least_along(machine, one)
                for other in range(-2, 25, 3):
                    self.assertIs(go_along(machine, one, other), other % least == 0)

    def test_of_the_greatest_common_divisor(self):
        for machine in SMALL + [SQUARE_TWENTY_ONE]:
            for one, other in [(4, 6), (9, 12), (10, 15), (0, 5), (6, -21), (8, 20), (30, 42), (BIG, 9)]:
                self.assertEqual(least_along(machine, math.gcd(one, other)),
                                 math.lcm(least_along(machine, one), least_along(machine, other)))

    def test_counts_that_are_none(self):
        for value in NO_COUNTS:
            self.assertEqual(error_of(least_along, TURNS, value), ("InvalidQuestion", 1), value)

    def test_least_together(self):
        for machine in SMALL + [SQUARE_NINE, THREES_FIVES]:
            told = least_together(machine)
            for count in range(1, 3 * told + 2):
                self.assertIs(go_along(machine, count, count), count % told == 0)
        self.assertEqual(least_together(machine=TRIVIAL), 1)


class RoundsTest(unittest.TestCase):

    def test_each_divides_one_of_two_counts_that_go_along(self):
        for machine in SMALL + [SQUARE_NINE, THREES_FIVES]:
            told = rounds(machine)
            most = math.prod(told)
            counts = sorted({1, 2, 3, 4, 5, 6, 7, 9, 10, -1, 0} | {part for part in range(1, most + 1) if most % part == 0})
            for one in counts:
                for other in counts:
                    if math.gcd(one, other) == 1:
                        self.assertIs(go_along(machine, one, other),
                                      all(one % part == 0 or other % part == 0 for part in told))

    def test_there_is_only_one_such_tuple(self):
        for machine in [TURNS, SQUARE, QUATERNION, FIVES, RING6]:
            pairs = [(one, other) for one in range(13) for other in range(13) if math.gcd(one, other) == 1]
            along = [go_along(machine, one, other) for one, other in pairs]
            for many in range(3):
                for parts in combinations(range(2, 13), many):
                    if all(math.gcd(one, other) == 1 for one, other in combinations(parts, 2)):
                        told = [all(one % part == 0 or other % part == 0 for part in parts) for one, other in pairs]
                        self.assertIs(told == along, parts == rounds(machine))

    def test_rounds_and_moduli(self):
        for machine in SMALL + LARGE + [EXACTLY_400]:
            told, lot = rounds(machine), moduli(machine)
            self.assertIs(type(told), tuple)
            self.assertEqual(list(told), sorted(told))
            self.assertEqual(len(told), len(lot))
            for part in told:
                self.assertGreaterEqual(part, 2)
                divided = [modulus for modulus in lot if modulus % part == 0]
                self.assertEqual(len(divided), 1)
                self.assertEqual(primes_of(part), primes_of(divided[0]))

    def test_their_product(self):
        for machine in SMALL + LARGE:
            whole = math.prod(rounds(machine))
            self.assertEqual(whole, least_along(machine, 1))
            inner = set(middle(machine))
            for count in range(1, whole + 1):
                self.assertIs(all(power(change, count) in inner for change in changes(machine)), count == whole)
        self.assertEqual(rounds(machine=TRIVIAL), ())

    def test_they_ascend_where_the_moduli_stand_otherwise(self):
        # The rounds of 3 and 4 are 3 and 2.
        self.assertEqual((moduli(SQUARE_NINE), rounds(SQUARE_NINE)), ((3, 4), (2, 3)))
