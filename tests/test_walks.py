"""Point 28: walks and jump faults."""

import unittest

from batchnumbers.batches import is_batch_fault, is_batch_number
from batchnumbers.changes import changes
from batchnumbers.errors import Refused
from batchnumbers.shelves import shelf_machine
from batchnumbers.walks import is_jump_fault, jump_fault, walk_sum
from tests.helpers import BIG, error_of, oddities
from tests.test_shelves import NO_SHELVINGS, SHELVINGS, WIDE_SHELVING

UNEVEN = (64, tuple([(at * at * 7 + at // 3) % 64 for at in range(64)]))


def plain_sum(shelving, shelf, jump, count):
    """The walk sum, step by step."""
    places, weights = shelving
    if count < 0:
        walk = [shelf - step * jump for step in range(1, 1 - count)]
        return -sum(weights[at % len(weights)] for at in walk) % places
    return sum(weights[(shelf + step * jump) % len(weights)] for step in range(count)) % places


def plain_faults(shelving, count):
    """All jump faults, by the words of the document."""
    places, weights = shelving
    shelves = range(len(weights))
    return [(shelf, jump) for shelf in shelves for jump in shelves
            if plain_sum(shelving, shelf, jump, count) != count * weights[shelf] % places]


class ExamplesTest(unittest.TestCase):

    def test_chapter_8(self):
        self.assertEqual((walk_sum((5, (1, 4, 0)), 0, 1, 4), is_jump_fault((5, (1, 4, 0)), 4, (0, 1))), (1, True))
        self.assertIsNone(jump_fault((5, (1, 4, 0)), 16))


class WalkSumTest(unittest.TestCase):

    def test_step_by_step(self):
        for shelving in SHELVINGS:
            for shelf in range(-3, 6):
                for jump in range(-4, 6):
                    for count in range(-9, 10):
                        self.assertEqual(walk_sum(shelving, shelf, jump, count),
                                         plain_sum(shelving, shelf, jump, count))

    def test_shelves_and_jumps_are_counted_round(self):
        for shelf, jump in [(BIG, -BIG), (-BIG, BIG), (-1, -1), (64, 65), (1000, -999)]:
            for count in [-70, -1, 0, 1, 2, 150]:
                self.assertEqual(walk_sum(UNEVEN, shelf, jump, count), walk_sum(UNEVEN, shelf % 64, jump % 64, count))
                self.assertEqual(walk_sum(UNEVEN, shelf, jump, count), plain_sum(UNEVEN, shelf, jump, count))

    def test_thirty_digits(self):
        # Behind 64 times 64 steps the same shelf is met with the same sum.
        for count in [BIG, -BIG, 10 ** 29, 1 - 10 ** 29]:
            for shelf, jump in [(0, 1), (5, 7), (63, 62), (2, 32), (-7, 0)]:
                self.assertEqual(walk_sum(UNEVEN, shelf, jump, count), plain_sum(UNEVEN, shelf, jump, count % 4096))
        self.assertEqual(walk_sum((7, (3,)), 0, 0, BIG), 3 * BIG % 7)
        self.assertEqual(walk_sum(shelving=(7, (3, 1)), shelf=1, jump=0, count=-BIG), -BIG % 7)

    def test_no_shelving(self):
        for value in NO_SHELVINGS:
            self.assertEqual(error_of(walk_sum, value, 0, 1, 2), ("InvalidQuestion", 0), value)


class JumpFaultTest(unittest.TestCase):

    def test_all_pairs(self):
        for shelving in SHELVINGS:
            shelves = len(shelving[1])
            for count in range(-9, 14):
                faults = plain_faults(shelving, count)
                told = jump_fault(shelving, count)
                if faults:
                    self.assertIs(type(told), tuple)
                    self.assertIn(told, faults)
                else:
                    self.assertIsNone(told)
                self.assertEqual([(shelf, jump) for shelf in range(shelves) for jump in range(shelves)
                                  if is_jump_fault(shelving, count, (shelf, jump))], faults)

    def test_0_and_1_have_none(self):
        for shelving in SHELVINGS + [WIDE_SHELVING, UNEVEN]:
            self.assertIsNone(jump_fault(shelving, 0))
            self.assertIsNone(jump_fault(shelving, 1))

    def test_one_place_or_one_shelf(self):
        for shelving in [(1, (0,)), (1, (0,) * 64), (64, (63,)), (9, (4,))]:
            for count in [-BIG, -1, 2, 3, BIG]:
                self.assertIsNone(jump_fault(shelving, count))
                self.assertIs(is_jump_fault(shelving, count, (0, 0)), False)

    def test_64_places_and_shelves(self):
        # Each weight is its shelf, so a walk sum differs by jump * count * (count - 1) / 2.
        for count, told in [(2, False), (3, False), (32, False), (64, False), (65, False), (128, True), (129, True),
                            (-128, True), (-127, True), (128 * BIG, True), (128 * BIG + 1, True), (BIG, False)]:
            self.assertIs(count * (count - 1) // 2 % 64 == 0, told)
            fault = jump_fault(WIDE_SHELVING, count)
            self.assertIs(fault is None, told)
            if fault is not None:
                self.assertIs(is_jump_fault(WIDE_SHELVING, count, fault), True)
        for count in [2, -1, 64, 4095, BIG]:
            fault = jump_fault(UNEVEN, count)
            self.assertIs(is_jump_fault(UNEVEN, count, fault), True)
            self.assertIn(fault, plain_faults(UNEVEN, count % 4096))
        self.assertIsNone(jump_fault(UNEVEN, 4096))
        self.assertIsNone(jump_fault(shelving=UNEVEN, count=1 - 4096 * BIG))

    def test_exactly_the_batch_numbers_have_none(self):
        tried = 0
        for shelving in SHELVINGS:
            machine = shelf_machine(shelving)
            try:
                changes(machine)
            except Refused:
                continue
            tried += 1
            for count in list(range(-7, 26)) + [BIG, -BIG]:
                self.assertIs(jump_fault(shelving, count) is None, is_batch_number(machine, count))
        self.assertGreater(tried, 15)

    def test_a_jump_fault_is_a_batch_fault(self):
        for shelving in SHELVINGS + [(10, (0, 3, 9, 1, 5, 7)), (3, tuple(range(3)) * 6)]:
            machine = shelf_machine(shelving)
            for count in list(range(-5, 15)) + [BIG]:
                for shelf in range(len(shelving[1])):
                    for jump in range(len(shelving[1])):
                        if is_jump_fault(shelving, count, (shelf, jump)):
                            fault = ((1,), (0,) * jump, shelf * shelving[0])
                            self.assertIs(is_batch_fault(machine, count, fault), True)

    def test_values_that_are_none(self):
        self.assertIs(is_jump_fault((5, (1, 4, 0)), 4, (0, 1)), True)
        for value in oddities() + [0, (), (0,), (0, 1, 0), [0, 1], (0, 4), (3, 1), (-3, 1), (0, -2), (False, 1), (0, True),
                                   (0.0, 1), (0, "1"), (0, None), ((0, 1),), (0, (1,)), (0, 0)]:
            self.assertIs(is_jump_fault((5, (1, 4, 0)), 4, value), False, value)
        self.assertIs(is_jump_fault(shelving=(5, (1, 4, 0)), count=16, value=(0, 1)), False)

    def test_no_shelving(self):
        for value in NO_SHELVINGS:
            self.assertEqual(error_of(jump_fault, value, 2), ("InvalidQuestion", 0), value)
            for third in [(0, 1), None]:
                self.assertEqual(error_of(is_jump_fault, value, 2, third), ("InvalidQuestion", 0), value)
