"""Point 22: pieces and the rest."""

import math
import unittest
from itertools import product

from batchnumbers.batches import moduli
from batchnumbers.changes import changes, middle, order
from batchnumbers.machines import Machine
from batchnumbers.parts import is_made_of, is_part, part_number
from batchnumbers.pieces import by_pieces, pieces, rest_piece
from tests.helpers import (EXACTLY_400, HUGE, KLEIN, LARGE, OVER_400, RING4, RING6, SMALL, SQUARE, SQUARE_NINE,
                           SQUARE_TWENTY_ONE, STILL, THREES_FIVES, TRIVIAL, TURNS, TWO, beside, error_of, of_changes,
                           of_cycles, oddities, then, times)

REFUSED = ("Refused", 0)
FIFTH = of_changes(of_cycles(5, (0, 1, 2, 3, 4)))
# The rest of the first has three changes, that of the second five.
SQUARE_RING6 = beside(SQUARE, RING6)
TURNS_FIFTH = beside(TURNS, FIFTH)
MACHINES = SMALL + LARGE + [SQUARE_RING6, TURNS_FIFTH, EXACTLY_400]


def primes_of(number):
    return {prime for prime in range(2, number + 1)
            if number % prime == 0 and all(prime % low for low in range(2, prime))}


def plain_order(change):
    """The order of a change, step by step."""
    count = 1
    while times(change, count) != tuple(range(len(change))):
        count += 1
    return count


def plain_piece(machine, modulus):
    return tuple(change for change in changes(machine) if primes_of(plain_order(change)) <= primes_of(modulus))


def plain_rest(machine):
    barred = primes_of(math.prod(moduli(machine)))
    return tuple(change for change in changes(machine) if not primes_of(plain_order(change)) & barred)


class ExamplesTest(unittest.TestCase):

    def test_chapter_6(self):
        two = Machine(2, [(1, 0), (0, 1), (2, 3), (3, 4), (4, 2)])
        self.assertEqual((pieces(two), len(rest_piece(two))), ((), 6))


class PiecesTest(unittest.TestCase):

    def test_by_the_words_of_the_document(self):
        for machine in MACHINES:
            self.assertEqual(pieces(machine),
                             tuple((modulus, plain_piece(machine, modulus)) for modulus in moduli(machine)))
            self.assertEqual(rest_piece(machine), plain_rest(machine))

    def test_known_sizes(self):
        for machine, sizes, rest in [(TRIVIAL, [], 1), (STILL, [], 1), (RING6, [], 6), (KLEIN, [], 4),
                                     (TURNS, [(6, 6)], 1), (SQUARE, [(4, 8)], 1), (SQUARE_NINE, [(3, 27), (4, 8)], 1),
                                     (SQUARE_TWENTY_ONE, [(4, 8), (21, 21)], 1), (THREES_FIVES, [(3, 27), (10, 10)], 1),
                                     (SQUARE_RING6, [(4, 16)], 3), (TURNS_FIFTH, [(6, 6)], 5),
                                     (EXACTLY_400, [(20, 400)], 1)]:
            self.assertEqual([(modulus, len(piece)) for modulus, piece in pieces(machine)], sizes)
            self.assertEqual(len(rest_piece(machine)), rest)

    def test_they_are_parts_of_which_all_is_made(self):
        for machine in MACHINES:
            told = tuple(piece for _, piece in pieces(machine)) + (rest_piece(machine),)
            for part in told:
                self.assertIs(is_part(machine, part), True)
            self.assertIs(is_made_of(machine, changes(machine), told), True)
            self.assertEqual(math.prod(len(part) for part in told), len(changes(machine)))
            self.assertLessEqual(set(rest_piece(machine)), set(middle(machine)))

    def test_the_number_of_a_piece_is_its_modulus(self):
        for machine in MACHINES:
            for modulus, piece in pieces(machine):
                self.assertEqual(part_number(machine, piece), modulus)

    def test_kinds_and_names(self):
        told = pieces(machine=SQUARE_NINE)
        self.assertIs(type(told), tuple)
        self.assertEqual([type(entry) for entry in told], [tuple, tuple])
        self.assertEqual([type(piece) for _, piece in told], [tuple, tuple])
        self.assertEqual(rest_piece(machine=TRIVIAL), ((0,),))

    def test_too_many_changes_ahead_of_all_else(self):
        for machine in [OVER_400, HUGE]:
            self.assertEqual(error_of(pieces, machine), REFUSED)
            self.assertEqual(error_of(rest_piece, machine), REFUSED)
            for value in [None, (), tuple(range(machine.states))]:
                self.assertEqual(error_of(by_pieces, machine, value), REFUSED)


class ByPiecesTest(unittest.TestCase):

    def test_each_change(self):
        for machine in MACHINES:
            parts = [piece for _, piece in pieces(machine)] + [rest_piece(machine)]
            # Of the larger machines some of the changes will do.
            for change in changes(machine)[::1 + len(changes(machine)) // 30]:
                told = by_pieces(machine, change)
                self.assertIs(type(told), tuple)
                self.assertEqual(len(told), len(parts))
                made = tuple(range(machine.states))
                for step, part in zip(told, parts):
                    self.assertIn(step, part)
                    made = then(made, step)
                self.assertEqual(made, change)

    def test_in_one_way_only(self):
        for machine in [SQUARE_NINE, SQUARE_RING6, TURNS_FIFTH]:
            parts = [piece for _, piece in pieces(machine)] + [rest_piece(machine)]
            for steps in product(*parts):
                made = tuple(range(machine.states))
                for step in steps:
                    made = then(made, step)
                self.assertEqual(by_pieces(machine, made), steps)

    def test_known_ones(self):
        self.assertEqual(by_pieces(TWO, (1, 0, 3, 4, 2)), ((1, 0, 3, 4, 2),))
        self.assertEqual(by_pieces(machine=TURNS, change=(1, 2, 0)), ((1, 2, 0), (0, 1, 2)))
        six = tuple(RING6.steps[state][0] for state in range(5))
        whole = (0, 1, 2, 3) + tuple(4 + state for state in six)
        self.assertEqual(order(whole), 6)
        self.assertEqual(by_pieces(SQUARE_RING6, whole), ((0, 1, 2, 3, 5, 4, 6, 7, 8), (0, 1, 2, 3, 4, 5, 7, 8, 6)))

    def test_what_is_no_change_of_a_row(self):
        for value in oddities() + [0, (), (0, 1), (0, 1, 2), [0, 1, 2, 3], (0, 1, 2, 2), (0, 1, 2, 4), (0, True, 2, 3),
                                   (0, 1.0, 2, 3), (0, 1, 2, [3]), (1, 0, 2, 3), (1, 2, 0, 3), (0, 1, 2, 3, 4)]:
            self.assertEqual(error_of(by_pieces, SQUARE, value), ("InvalidChange", 0), value)
        self.assertEqual(error_of(by_pieces, RING4, (2, 1, 0, 3)), ("InvalidChange", 0))
        self.assertIsNone(error_of(by_pieces, RING4, (2, 3, 0, 1)))
