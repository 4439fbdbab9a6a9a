"""Points 40 and 41: views, finest views."""

import unittest
from itertools import combinations, product

from batchnumbers.batches import batch_fault, is_batch_fault, is_batch_number, moduli
from batchnumbers.changes import changes, never_matters
from batchnumbers.following import lot_of
from batchnumbers.knotted import merged
from batchnumbers.machines import Machine
from batchnumbers.views import finest_view, is_telling, is_view, view_machine, view_with
from tests.helpers import (ALL4, BIG, CUBE8, EIGHTS, EVEN4, EXACTLY_400, FIVES, HUGE, KLEIN, OVER_400, PAIR, QUATERNION,
                           RING4, RING6, SHIFTED, SQUARE, SQUARE_PAIR, STILL, TRIVIAL, TURNS, TWENTY, TWENTY_ONE, TWO,
                           all_changes, beside, error_of, oddities, of_changes, of_cycles, splits_all)
from tests.test_rooms import divides_one

REFUSED = ("Refused", 0)
RING8 = of_changes(of_cycles(8, (0, 1, 2, 3, 4, 5, 6, 7)))
ALIKE = [TRIVIAL, STILL, PAIR, TURNS, SQUARE, TWO, RING4, RING6, KLEIN, CUBE8, FIVES, EVEN4, ALL4, TWENTY, SHIFTED, SQUARE_PAIR,
         TWENTY_ONE, QUATERNION, RING8, EIGHTS]
FEWER = [machine for machine in ALIKE if machine.states < 7]
NO_LISTS = oddities() + [0, [True], (2, 3.0), (2, None), [2, "3"], ([2], 3), [[2, 3]], range(2)]
COUNTS = [(), [0], (1, 0, 1), (2,), [-1], (3,), (-2,), (4,), [5], (6,), (7,), (4, 5), [3, 4], (6, 4), (10, 21), (13,), (-5, 8)]


def numberings(many):
    """All ways to give numbers to so many states as they come."""
    found = [()]
    for _ in range(many):
        found = [told + (number,) for told in found for number in range(max(told, default=-1) + 2)]
    return found


def goes_together(machine, view):
    """Whether each command leads two states with the same number to two with the same number."""
    for one, other in combinations(range(machine.states), 2):
        if view[one] == view[other]:
            for to, beside_it in zip(machine.steps[one], machine.steps[other]):
                if view[to] != view[beside_it]:
                    return False
    return True


def views_of(machine):
    """All views, by trying all numberings."""
    return [view for view in numberings(machine.states) if goes_together(machine, view)]


def is_finer(one, other):
    """Whether the first view is finer than the second, or the same."""
    return all(other[a] == other[b] for a, b in combinations(range(len(one)), 2) if one[a] == one[b])


def finest_of(views):
    """The one of these views that is finer than each of them, or the same."""
    found = [view for view in views if all(is_finer(view, other) for other in views)]
    assert len(found) == 1
    return found[0]


class ExamplesTest(unittest.TestCase):

    def test_chapter_11(self):
        turns, square = Machine(2, [(1, 0), (2, 2), (0, 1)]), Machine(2, [(1, 0), (2, 3), (3, 2), (0, 1)])
        self.assertEqual(
            (finest_view(square, (2,)), finest_view(square, [4, 5]), finest_view(turns, (3,)), view_with(square, [(0, 1)])),
            ((0, 1, 0, 1), (0, 1, 2, 3), (0, 0, 0), (0, 0, 0, 0)))
        self.assertEqual((is_telling(square, ((0, 1, 0, 1),)), view_machine(square, (0, 1, 0, 1)).steps),
                         (False, ((1, 0), (0, 1))))


class IsViewTest(unittest.TestCase):

    def test_all_numberings(self):
        for machine in ALIKE:
            found = views_of(machine)
            for view in numberings(machine.states):
                self.assertIs(is_view(machine, view), view in found)

    def test_numbers_as_they_come(self):
        for machine in [TURNS, SQUARE, STILL, KLEIN]:
            found = views_of(machine)
            for value in product(range(-1, machine.states + 1), repeat=machine.states):
                self.assertIs(is_view(machine, value), value in found)

    def test_all_apart_and_none(self):
        for machine in ALIKE + [HUGE, OVER_400]:
            self.assertIs(is_view(machine, tuple(range(machine.states))), True)
            self.assertIs(is_view(machine, (0,) * machine.states), True)

    def test_values_that_are_none(self):
        self.assertIs(is_view(machine=SQUARE, value=(0, 1, 0, 1)), True)
        for value in oddities() + [0, (), (0,), [0, 1, 0, 1], [0, 0, 0, 0], (0, 1, 0), (0, 1, 0, 1, 0), (0, 1, 0, True),
                                   (False, 1, 0, 1), (0, 1.0, 0, 1), (0, 1, 0, "1"), (0, 1, 0, None), (1, 0, 1, 0),
                                   (0, 2, 0, 2), (0, 1, 0, 2), (0, 0, 1, 1), (0, -1, 0, -1), ((0,), 1, 0, 1), range(4)]:
            self.assertIs(is_view(SQUARE, value), False, value)


class ViewMachineTest(unittest.TestCase):

    def test_states_are_the_numbers(self):
        for machine in ALIKE:
            for view in views_of(machine):
                told = view_machine(machine, view)
                self.assertEqual((told.commands, told.states), (machine.commands, max(view) + 1))
                for state, entry in enumerate(machine.steps):
                    self.assertEqual(told.steps[view[state]], tuple(view[to] for to in entry))
            self.assertEqual(view_machine(machine, tuple(range(machine.states))), machine)
        self.assertEqual(view_machine(machine=TRIVIAL, view=(0,)), TRIVIAL)
        self.assertEqual(view_machine(HUGE, (0,) * 16), Machine(2, [(0, 0)]))

    def test_batch_numbers_stay_and_faults_are_faults_here(self):
        for machine in FEWER:
            lot = moduli(machine)
            for view in views_of(machine):
                told = view_machine(machine, view)
                self.assertTrue(all(divides_one(modulus, lot) for modulus in moduli(told)))
                for count in range(-4, 10):
                    fault = batch_fault(told, count)
                    if fault is not None:
                        one, other, number = fault
                        for state in [state for state in range(machine.states) if view[state] == number]:
                            self.assertIs(is_batch_fault(machine, count, (one, other, state)), True)

    def test_what_is_no_view(self):
        for value in oddities() + [0, (), [0, 1, 0, 1], (0, 1, 0), (0, 0, 1, 1), (1, 0, 1, 0), (0, True, 0, True),
                                   (0, 1, 0, 1, 0), (0, 2, 0, 2), (0, 1, 0, None)]:
            self.assertEqual(error_of(view_machine, SQUARE, value), ("InvalidQuestion", 1), value)


class ViewWithTest(unittest.TestCase):

    def test_the_finest_of_those_that_hold_the_pairs(self):
        for machine in ALIKE:
            views = views_of(machine)
            pairs = list(product(range(machine.states), repeat=2))
            for some in [[pair] for pair in pairs] + [pairs[1::5], pairs[2::7], [], pairs[3:9:3], pairs]:
                told = view_with(machine, some)
                good = [view for view in views if all(view[one] == view[other] for one, other in some)]
                self.assertEqual(told, finest_of(good))
                self.assertEqual((type(told), view_with(machine, tuple(some)[::-1])), (tuple, told))

    def test_known_ones(self):
        self.assertEqual(view_with(machine=SQUARE, pairs=()), (0, 1, 2, 3))
        self.assertEqual(view_with(SQUARE, ((0, 2), (2, 0), (1, 1))), (0, 1, 0, 1))
        self.assertEqual(view_with(TWO, [(2, 4)]), (0, 1, 2, 2, 2))
        self.assertEqual(view_with(TWO, [(4, 0)]), (0,) * 5)
        self.assertEqual(view_with(TRIVIAL, [(0, 0)] * 1000), (0,))
        self.assertEqual(view_with(HUGE, [(3, 9)]), (0,) * 16)
        self.assertEqual(view_with(RING8, [(1, 5)]), (0, 1, 2, 3) * 2)

    def test_what_are_no_pairs_of_states(self):
        for value in oddities() + [0, 1, (0, 1), range(2)]:
            self.assertEqual(error_of(view_with, SQUARE, value), ("InvalidQuestion", 1), value)
        for pair in oddities() + [0, (), (0,), [0, 1], (0, 1, 2), (0, 4), (-1, 0), (0, True), (False, 1), (0, 1.0), (0, None),
                                  ("0", 1), ((0, 1), 2), range(2)]:
            self.assertEqual(error_of(view_with, SQUARE, [pair]), ("InvalidQuestion", 1), pair)
            self.assertEqual(error_of(view_with, SQUARE, ((0, 1), pair, (1, 2))), ("InvalidQuestion", 1), pair)


class TellingTest(unittest.TestCase):

    def test_pairs_of_views(self):
        for machine in [TURNS, SQUARE, TWO, KLEIN, RING6, TRIVIAL, PAIR, CUBE8]:
            views = views_of(machine)[:25]
            for some in [(view,) for view in views] + list(product(views, repeat=2)) + [tuple(views)]:
                told = all(any(view[one] != view[other] for view in some)
                           for one, other in combinations(range(machine.states), 2))
                self.assertIs(is_telling(machine, some), told)

    def test_moduli_are_merged(self):
        for machine in [TURNS, SQUARE, TWO, KLEIN, RING6, SQUARE_PAIR, EVEN4, FIVES, beside(TURNS, PAIR)]:
            views = views_of(machine)
            for some in list(product(views, repeat=2)) + [tuple(views)]:
                if is_telling(machine, some):
                    numbers = [modulus for view in some for modulus in moduli(view_machine(machine, view))]
                    self.assertEqual(merged(numbers), moduli(machine))

    def test_values_that_are_none(self):
        good = ((0, 0, 1, 1, 1), (0, 1, 2, 3, 4))
        self.assertIs(is_telling(machine=TWO, value=good), True)
        self.assertIs(is_telling(TRIVIAL, ((0,),)), True)
        for value in oddities() + [0, (), [], list(good), (good,), good[1], (list(good[1]),), (good[1], list(good[0])),
                                   (good[1], (0, 0, 0, 0, 1)), (good[1], None), (good[1], (0, True, 2, 3, 4)),
                                   (good[1], ()), (good[1], (0, 0, 0, 0)), (good[0],), ((0, 0, 0, 0, 0), good[0])]:
            self.assertIs(is_telling(TWO, value), False, value)
        self.assertIs(is_telling(TRIVIAL, ()), False)


class FinestViewTest(unittest.TestCase):

    def test_by_trying_all_views(self):
        for machine in ALIKE:
            views = views_of(machine)
            groups = [all_changes(view_machine(machine, view)) for view in views]
            for counts in COUNTS:
                good = [view for view, group in zip(views, groups) if all(splits_all(group, count) for count in counts)]
                told = finest_view(machine, counts)
                self.assertEqual(told, finest_of(good))
                # A view is such a one exactly if this one is finer or the same.
                self.assertEqual(good, [view for view in views if is_finer(told, view)])

    def test_batch_numbers_of_the_machine_itself(self):
        for machine in ALIKE + [EXACTLY_400]:
            good = [count for count in range(-70, 80) if is_batch_number(machine, count)]
            self.assertEqual(finest_view(machine, good[:5] + good[-5:]), tuple(range(machine.states)))
            self.assertEqual(finest_view(machine=machine, counts=()), tuple(range(machine.states)))

    def test_what_its_moduli_divide(self):
        for machine in ALIKE + [EXACTLY_400]:
            for counts in COUNTS:
                told = view_machine(machine, finest_view(machine, counts))
                self.assertTrue(all(is_batch_number(told, count) for count in counts))
                lot = lot_of(counts)
                if lot is not None:
                    self.assertTrue(all(divides_one(modulus, lot) for modulus in moduli(told)))

    def test_what_is_seen_where_order_does_not_matter(self):
        for machine in ALIKE:
            told = finest_view(machine, (2,))
            self.assertEqual(told, finest_of([view for view in views_of(machine)
                                              if never_matters(view_machine(machine, view))]))

    def test_ten_counts_of_thirty_digits(self):
        for machine, count in [(SQUARE, 4 * BIG), (SQUARE, 4 * BIG + 2), (TURNS, 6 * BIG + 3), (EXACTLY_400, 20 * BIG),
                               (EXACTLY_400, 20 * BIG + 4), (EIGHTS, -8 * BIG + 2)]:
            counts = [sign for at in range(5) for sign in (count + 240 * at, count - 240 * at)]
            self.assertEqual(finest_view(machine, counts), finest_view(machine, (count % 240,)))

    def test_several_together(self):
        both = beside(TURNS, SQUARE)
        self.assertEqual(finest_view(both, (6,)), (0, 1, 2, 3, 4, 3, 4))
        self.assertEqual(finest_view(both, (4,)), (0, 0, 0, 1, 2, 3, 4))
        self.assertEqual(finest_view(both, [4, 6]), (0, 0, 0, 1, 2, 1, 2))

    def test_too_many_changes_ahead_of_all_else(self):
        for machine in [OVER_400, HUGE]:
            for counts in [(), (2,), None, [True]]:
                self.assertEqual(error_of(finest_view, machine, counts), REFUSED)
        self.assertEqual(len(changes(EXACTLY_400)), 400)

    def test_what_are_no_counts(self):
        for value in NO_LISTS:
            self.assertEqual(error_of(finest_view, SQUARE, value), ("InvalidQuestion", 1), value)
