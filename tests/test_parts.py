"""Points 18 and 19: parts and their numbers."""

import math
import unittest

from batchnumbers.batches import moduli
from batchnumbers.changes import changes, middle, never_matters
from batchnumbers.machines import Machine
from batchnumbers.parts import along, is_made_of, is_part, part_middle, part_number, part_of, part_rounds
from tests.helpers import (ALL4, CUBE8, EVEN4, EXACTLY_400, FIVES, HUGE, KLEIN, LARGE, OVER_400, QUATERNION, RING6,
                           SMALL, SQUARE, SQUARE_NINE, SQUARE_PAIR, STILL, THREES, TRIVIAL, TURNS, TWO, error_of,
                           oddities, splits_all, then, times)

REFUSED = ("Refused", 0)
IDLE = (0, 1, 2)
TURN = (1, 2, 0)
FLIP = (0, 2, 1)
RING = ((0, 1, 2), (1, 2, 0), (2, 0, 1))
NO_PARTS = oddities() + [0, (), IDLE, [IDLE], (FLIP,), (IDLE, TURN), (FLIP, IDLE), (IDLE, IDLE), RING[::-1], RING[1:],
                         RING + (RING[2],), (list(IDLE),), (IDLE, list(FLIP)), ((0, 1, 2), (0, 2, True)),
                         ((0.0, 1, 2),), ((False, 1, 2),), ((0, 1),), ((0, 1, 2, 3),), (IDLE, None), (IDLE, FLIP, TURN),
                         (IDLE, FLIP, (1, 0, 2)), ((), IDLE), (IDLE, 0)]


def closed(group):
    """Whether each change followed by each is one of them."""
    return all(then(one, other) in group for one in group for other in group)


def all_parts(machine):
    """All parts, made up of those of single changes."""
    single = {part_of(machine, [change]) for change in changes(machine)}
    found = set(single)
    while True:
        more = found | {part_of(machine, one + other) for one in found for other in single}
        if more == found:
            return sorted(found)
        found = more


def follow(one, other):
    return {then(first, second) for first in one for second in other}


def goes_along(one, other):
    return all(then(first, second) == then(second, first) for first in one for second in other)


class ExamplesTest(unittest.TestCase):

    def test_chapter_6(self):
        turns = Machine(2, [(1, 0), (2, 2), (0, 1)])
        self.assertEqual((part_of(turns, [(1, 2, 0)]), part_rounds(turns, changes(turns))),
                         (((0, 1, 2), (1, 2, 0), (2, 0, 1)), 6))


class PartTest(unittest.TestCase):

    def test_all_subsets_of_turns(self):
        group = changes(TURNS)
        for bits in range(64):
            value = tuple(change for at, change in enumerate(group) if bits >> at & 1)
            self.assertIs(is_part(TURNS, value), IDLE in value and closed(value))

    def test_parts(self):
        for machine in SMALL + LARGE + [EXACTLY_400]:
            idle = tuple(range(machine.states))
            self.assertIs(is_part(machine, changes(machine)), True)
            self.assertIs(is_part(machine, middle(machine)), True)
            self.assertIs(is_part(machine, (idle,)), True)
            self.assertIs(is_part(machine, ()), False)
        self.assertIs(is_part(machine=TURNS, value=RING), True)

    def test_changes_of_no_row(self):
        self.assertIs(is_part(SQUARE, ((0, 1, 2, 3), (1, 0, 2, 3))), False)
        self.assertIs(is_part(RING6, ((0, 1, 2, 3, 4),)), True)
        self.assertIs(is_part(STILL, changes(TURNS)), False)

    def test_no_parts(self):
        for value in NO_PARTS:
            self.assertIs(is_part(TURNS, value), False, value)

    def test_no_parts_are_refused(self):
        for value in NO_PARTS:
            for function, more in [(part_middle, ()), (part_rounds, ()), (part_number, ()), (is_made_of, ((RING,),)),
                                   (is_made_of, (None,)), (along, (RING,)), (along, (None,))]:
                self.assertEqual(error_of(function, TURNS, value, *more), ("InvalidQuestion", 1), value)
            self.assertEqual(error_of(along, TURNS, RING, value), ("InvalidQuestion", 2), value)

    def test_too_many_changes_ahead_of_all_else(self):
        for machine in [OVER_400, HUGE]:
            idle = (tuple(range(machine.states)),)
            for value in [idle, None, ()]:
                for function, more in [(is_part, ()), (part_of, ()), (part_middle, ()), (along, (idle,)),
                                       (along, (None,)), (is_made_of, ((idle,),)), (is_made_of, (None,)),
                                       (part_rounds, ()), (part_number, ())]:
                    self.assertEqual(error_of(function, machine, value, *more), REFUSED)

    def test_part_of_is_the_least(self):
        for machine in [TURNS, SQUARE, QUATERNION, EVEN4, TWO]:
            parts = all_parts(machine)
            for one in changes(machine):
                for other in changes(machine):
                    told = part_of(machine, [one, other])
                    self.assertIs(is_part(machine, told), True)
                    self.assertTrue(closed(told))
                    for part in parts:
                        if one in part and other in part:
                            self.assertLessEqual(set(told), set(part))
                    self.assertTrue(one in told and other in told)

    def test_part_of(self):
        self.assertEqual(part_of(TURNS, []), (IDLE,))
        self.assertEqual(part_of(TURNS, ()), (IDLE,))
        self.assertEqual(part_of(machine=TURNS, value=(FLIP, FLIP)), (IDLE, FLIP))
        self.assertEqual(part_of(TURNS, [FLIP, TURN]), changes(TURNS))
        self.assertEqual(part_of(EXACTLY_400, changes(EXACTLY_400)), changes(EXACTLY_400))
        value = [TURN]
        told = part_of(TURNS, value)
        value[0] = FLIP
        self.assertEqual(told, RING)

    def test_part_of_what_is_no_sequence_of_changes(self):
        for value in oddities() + [0, 3]:
            self.assertEqual(error_of(part_of, TURNS, value), ("InvalidChange", 0), value)
        for entry in oddities() + [0, (), (0, 1), list(TURN), (0, 1, True), (0, 1, 1), (0, 1, [2])]:
            self.assertEqual(error_of(part_of, TURNS, [entry]), ("InvalidChange", 0), entry)
            self.assertEqual(error_of(part_of, TURNS, (IDLE, TURN, entry, entry)), ("InvalidChange", 2), entry)
        self.assertEqual(error_of(part_of, SQUARE, [(0, 1, 2, 3), (1, 0, 2, 3)]), ("InvalidChange", 1))

    def test_part_middle(self):
        for machine in [TURNS, SQUARE, QUATERNION, EVEN4, TWO, THREES]:
            self.assertEqual(part_middle(machine, changes(machine)), middle(machine))
            for part in all_parts(machine):
                self.assertEqual(part_middle(machine, part),
                                 tuple(one for one in part if goes_along((one,), part)))
        self.assertEqual(part_middle(machine=TURNS, part=RING), RING)

    def test_along(self):
        for machine in [TURNS, SQUARE, QUATERNION, TWO]:
            parts = all_parts(machine)
            for one in parts:
                for other in parts:
                    self.assertIs(along(machine, one, other), goes_along(one, other))
        self.assertIs(along(machine=TURNS, one=RING, other=RING), True)


class MadeOfTest(unittest.TestCase):

    def test_pairs_of_parts(self):
        for machine in [TURNS, SQUARE, KLEIN, RING6, CUBE8]:
            parts = all_parts(machine)
            whole = changes(machine)
            for one in parts:
                self.assertIs(is_made_of(machine, whole, (one,)), one == whole)
                for other in parts:
                    told = goes_along(one, other) and follow(one, other) == set(whole)
                    self.assertIs(is_made_of(machine, whole, (one, other)), told)

    def test_three_parts(self):
        whole = changes(CUBE8)
        singles = [part_of(CUBE8, [change]) for change in whole[1:]]
        for one in singles:
            for two in singles:
                for three in singles:
                    told = len(follow(follow(one, two), three)) == 8
                    self.assertIs(is_made_of(CUBE8, whole, (one, two, three)), told)

    def test_equal_entries(self):
        self.assertIs(is_made_of(TURNS, RING, (RING, RING)), True)
        self.assertIs(is_made_of(TURNS, RING, (RING, (IDLE,), RING, (IDLE,))), True)
        # These do not go along with themselves, so they must not stand there twice.
        self.assertIs(is_made_of(TURNS, changes(TURNS), (changes(TURNS),)), True)
        self.assertIs(is_made_of(TURNS, changes(TURNS), (changes(TURNS), changes(TURNS))), False)
        self.assertIs(is_made_of(TURNS, changes(TURNS), (changes(TURNS), (IDLE,))), True)

    def test_entries_that_do_not_go_along(self):
        self.assertIs(is_made_of(TURNS, changes(TURNS), (RING, (IDLE, FLIP))), False)
        self.assertIs(is_made_of(TURNS, changes(TURNS), (changes(TURNS), RING)), False)
        inner = middle(SQUARE)
        self.assertIs(is_made_of(SQUARE, changes(SQUARE), (inner, changes(SQUARE), inner)), True)
        ring = part_of(SQUARE, [(1, 2, 3, 0)])
        flips = part_of(SQUARE, [(0, 3, 2, 1)])
        self.assertIs(is_made_of(SQUARE, changes(SQUARE), (ring, inner, flips)), False)
        self.assertIs(is_made_of(SQUARE, changes(SQUARE), (flips, ring)), False)

    def test_entries_that_do_not_lie_in_it(self):
        self.assertIs(is_made_of(TURNS, RING, (changes(TURNS),)), False)
        self.assertIs(is_made_of(TWO, part_of(TWO, [(1, 0, 2, 3, 4)]), (changes(TWO),)), False)
        self.assertIs(is_made_of(TURNS, RING, ((IDLE,),)), False)

    def test_what_is_no_tuple_of_parts(self):
        for value in oddities() + [0, (), [RING], RING, (RING, None), (RING, 0), (RING, ()), (list(RING),),
                                   (RING, (IDLE, TURN)), (RING[::-1],), ([list(change) for change in RING],)]:
            self.assertIs(is_made_of(TURNS, RING, value), False, value)
        self.assertIs(is_made_of(machine=TURNS, part=RING, value=(RING,)), True)

    def test_very_many_entries(self):
        self.assertIs(is_made_of(TURNS, RING, (RING,) * 1000), True)
        self.assertIs(is_made_of(TURNS, RING, ((IDLE,),) * 1000), False)


class NumberTest(unittest.TestCase):

    def test_rounds_and_numbers(self):
        for machine in [TURNS, SQUARE, QUATERNION, EVEN4, TWO, THREES, FIVES, SQUARE_PAIR]:
            for part in all_parts(machine):
                inner = set(part_middle(machine, part))
                most = 2 * math.lcm(*[len(part), 1])
                rounds = [count for count in range(1, most + 1) if all(times(one, count) in inner for one in part)]
                self.assertEqual(part_rounds(machine, part), rounds[0])
                self.assertEqual(rounds, list(range(rounds[0], most + 1, rounds[0])))
                numbers = [count for count in rounds if splits_all(part, count)]
                self.assertEqual(part_number(machine, part), numbers[0])
                self.assertEqual(numbers, list(range(numbers[0], most + 1, numbers[0])))
                self.assertIs(numbers[0] == 1, goes_along(part, part))
                self.assertNotEqual(numbers[0], 2)

    def test_known_ones(self):
        self.assertEqual([part_rounds(machine, changes(machine)) for machine in [TRIVIAL, SQUARE, THREES, ALL4]],
                         [1, 2, 3, 12])
        self.assertEqual([part_number(machine, changes(machine)) for machine in [TRIVIAL, SQUARE, THREES, ALL4]],
                         [1, 4, 3, 12])
        self.assertEqual(part_rounds(machine=TURNS, part=RING), 1)
        self.assertEqual(part_number(machine=TURNS, part=RING), 1)

    def test_all_changes_have_the_product_of_the_moduli(self):
        for machine in SMALL + LARGE + [EXACTLY_400, SQUARE_NINE]:
            self.assertEqual(part_number(machine, changes(machine)), math.prod(moduli(machine)))
            self.assertIs(part_number(machine, changes(machine)) == 1, never_matters(machine))
