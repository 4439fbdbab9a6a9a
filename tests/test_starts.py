"""Point 45: counts that suit a couple of changes from one state."""

import math
import unittest

from batchnumbers.changes import loop, split_loop
from batchnumbers.couples import couple_rests, couple_round, suits
from batchnumbers.starts import alike_states, start_rests, start_round
from tests.helpers import BIG, error_of, oddities, then, times
from tests.test_couples import COUPLES, NO_TWO, SEVEN, WIDE, all_orders

NO_STATES = oddities() + [-1, 3, BIG, (), (0,), [0]]


def suits_from(one, other, count, state):
    """Whether loop and split loop lead the state to one state, step by step."""
    return times(then(one, other), count)[state] == then(times(one, count), times(other, count))[state]


def states_round(change, state):
    """The states that stand in the round of the state."""
    found = [state]
    while change[found[-1]] != state:
        found.append(change[found[-1]])
    return found


def told_multiple(one, other, state):
    """The least common multiple that the document tells, of the states in all these rounds."""
    firsts = states_round(one, state)
    return math.lcm(len(states_round(then(one, other), state)), len(firsts),
                    *[len(states_round(other, first)) for first in firsts])


class ExamplesTest(unittest.TestCase):

    def test_chapter_12(self):
        self.assertEqual(
            (alike_states((1, 2, 0), (0, 2, 1), 2), start_rests((1, 2, 0), (0, 2, 1), 0),
             start_round((1, 2, 0), (0, 2, 1), 0)),
            ((), (0, 1), 6))


class AlikeStatesTest(unittest.TestCase):

    def test_step_by_step(self):
        for one, other in COUPLES:
            for count in range(-5, 9):
                told = alike_states(one, other, count)
                self.assertEqual(told, tuple(state for state in range(len(one)) if suits_from(one, other, count, state)))
                self.assertIs(type(told), tuple)
                self.assertIs(suits(one, other, count), len(told) == len(one))
        self.assertEqual(alike_states(one=(0,), other=(0,), count=BIG), (0,))

    def test_0_and_1_suit_from_each_state(self):
        for one, other in COUPLES + WIDE:
            for count in [0, 1, all_orders(one, other) * BIG, 1 - all_orders(one, other) * BIG]:
                self.assertEqual(alike_states(one, other, count), tuple(range(len(one))))

    def test_far_counts(self):
        for one, other in COUPLES[::9] + WIDE:
            for count in [BIG, -BIG]:
                ends = zip(loop(one, other, count), split_loop(one, other, count))
                self.assertEqual(alike_states(one, other, count), tuple(at for at, (to, end) in enumerate(ends) if to == end))

    def test_what_are_no_two_changes(self):
        for one, other in NO_TWO:
            self.assertEqual(error_of(alike_states, one, other, 2), ("InvalidChange", 0), (one, other))


class StartTest(unittest.TestCase):

    def test_the_least_round_step_by_step(self):
        for one, other in COUPLES[::2] + [SEVEN]:
            whole = all_orders(one, other)
            for state in range(len(one)):
                suiting = [suits_from(one, other, count, state) for count in range(whole)]
                least = 1
                while suiting[least:] + suiting[:least] != suiting:
                    least += 1
                self.assertEqual(start_round(one, other, state), least)
                told = start_rests(one, other, state)
                self.assertEqual(told, tuple(count for count in range(least) if suiting[count]))
                self.assertIs(type(told), tuple)
        self.assertEqual(start_round(one=(1, 2, 0), other=(0, 2, 1), state=2), 6)
        self.assertEqual(start_rests(one=(0,), other=(0,), state=0), (0,))

    def test_below_0_likewise(self):
        for one, other in COUPLES[::8] + [SEVEN] + WIDE[:1]:
            for state in range(len(one)):
                rests, whole = start_rests(one, other, state), start_round(one, other, state)
                for count in range(-9, 9):
                    self.assertIs(suits_from(one, other, count, state), count % whole in rests)

    def test_the_round_divides_what_is_told(self):
        for one, other in COUPLES + WIDE:
            rounds = [start_round(one, other, state) for state in range(len(one))]
            for state, told in enumerate(rounds):
                self.assertEqual(told_multiple(one, other, state) % told, 0)
            self.assertEqual(math.lcm(*rounds) % couple_round(one, other), 0)

    def test_suits_exactly_if_it_suits_from_all_states(self):
        for one, other in COUPLES + WIDE:
            sides = [(start_round(one, other, state), start_rests(one, other, state)) for state in range(len(one))]
            rests = couple_rests(one, other)
            for count in range(couple_round(one, other)):
                self.assertIs(count in rests, all(count % whole in some for whole, some in sides))

    def test_three_neighbours_from_one_state(self):
        # 0, 1 and 2 suit from state 0, but 3 does not.
        found = [(start_rests(one, other, state), start_round(one, other, state))
                 for one, other in COUPLES for state in range(len(one))]
        self.assertTrue(any(rests[:3] == (0, 1, 2) and len(rests) < whole for rests, whole in found))
        for rests, whole in found:
            self.assertEqual(rests[:2], (0, 1)[:whole])

    def test_wide_ones(self):
        for one, other in WIDE:
            for state in range(len(one)):
                told, whole = start_rests(one, other, state), start_round(one, other, state)
                for count in [2, 5, whole - 1, whole // 2, 7 * whole + 3, BIG]:
                    self.assertIs(count % whole in told, state in alike_states(one, other, count))

    def test_what_is_no_state(self):
        for value in NO_STATES:
            for function in [start_round, start_rests]:
                self.assertEqual(error_of(function, (1, 2, 0), (0, 2, 1), value), ("Refused", 0), value)

    def test_the_changes_ahead_of_the_state(self):
        for one, other in NO_TWO:
            for function in [start_round, start_rests]:
                for state in [0, -1, None]:
                    self.assertEqual(error_of(function, one, other, state), ("InvalidChange", 0), (one, other))
