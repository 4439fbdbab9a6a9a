"""Points 16 and 17: scripts and flat rows."""

import unittest

from batchnumbers.batches import is_batch_number
from batchnumbers.changes import change_of, changes, power
from batchnumbers.machines import Machine
from batchnumbers.scripts import (flat, flat_change, is_loose, is_script, join_script, script_change, split_script)
from tests.helpers import (BIG, EXACTLY_400, FIVES, HUGE, KLEIN, OVER_400, QUATERNION, SMALL, SQUARE, SQUARE_NINE,
                           TRIVIAL, TURNS, TWENTY, TWO, error_of, oddities, then, times)

REFUSED = ("Refused", 0)
NESTED = (0, (2, ((2, (0, 1)), 1)), (3, ((-1, (1,)),)))
SCRIPTS = [(), (0,), (1, 0, 0), ((5, ()),), ((5, (0, 1, 1)),), NESTED, NESTED[:1], ((0, (0, 1)),), ((-3, (0,)), 1),
           (0, (4, (0, (3, (1,)))), (-2, ((2, (0, 1)),))), ((BIG, (0, (-BIG, (1, 0)))),), ((1, ((1, ((1, (0, 1)),)),)),),
           ((2, ((3, ()), 0)),), ((2, ((3, ()), (1, ((1, ()),)), (5, (1,)))),), ((2, ((3, (0,)), (1, (1,)))),),
           ((3, ((4, ((5, (0, 0)), 1)), 0)), 0), ((4, (0, 1)), (4, (1, 1)), (5, ()), (5, (0,)))]
NO_SCRIPTS = oddities() + [0, 1, [], [0], (2,), (-1,), (None,), (False,), (True,), (0, 1.0), ("0",), ((0,),), ((),),
                           (([1, (0,)]),), ((1, [0]),), ((1, 0),), ((1, (0,), 0),), ((True, (0,)),), ((1.0, (0,)),),
                           ((None, (0,)),), ((1, (2,)),), ((1, (0, (1, [0]))),), ((1, None),), (0, (1, (0, ())))]
NO_PATHS = oddities() + [0, (), [0], [1], (True,), (-1,), (3,), (0,), (1, 1), (1, 0, 0), (1, 2), (1, 0, 2), (2, 0, 0),
                         (2, 1), (1.0,), ("1",), (None,), (1, None), (1, False), ((1,),)]


def deep(loops, inside=(0,)):
    """A script of so many loops within one another."""
    script = inside
    for _ in range(loops):
        script = ((1, script),)
    return script


def plain_change(machine, script):
    """The change of a script, item by item and round by round; for small counts."""
    change = tuple(range(machine.states))
    for item in script:
        if isinstance(item, tuple):
            step = times(plain_change(machine, item[1]), item[0] if abs(item[0]) < 1000 else item[0] % 4)
        else:
            step = change_of(machine, (item,))
        change = then(change, step)
    return change


def full_counts(script, around=1):
    """The full counts of the loops of which two or more items hold commands."""
    found = []
    for item in script:
        if isinstance(item, tuple):
            if len([inner for inner in item[1] if has_command(inner)]) >= 2:
                found.append(around * item[0])
            found.extend(full_counts(item[1], around * item[0]))
    return found


def has_command(item):
    return not isinstance(item, tuple) or any(has_command(inner) for inner in item[1])


class ExamplesTest(unittest.TestCase):

    def test_chapter_5(self):
        square = Machine(2, [(1, 0), (2, 3), (3, 2), (0, 1)])
        nested = (0, (2, ((2, (0, 1)), 1)), (3, ((-1, (1,)),)))
        self.assertEqual(
            (is_loose(square, nested), is_loose(square, nested[:1]),
             flat(square, (0, (4, (0, (3, (1,)))), (-2, ((2, (0, 1)),))))),
            (False, True, ((0, 1), (0, 4), (1, 12), (0, -4), (1, -4))))
        self.assertEqual(
            (split_script(square, ((5, (0, 1, 1)),), (0,), 1), script_change(square, ((5, (0, 1, 1)),))),
            (((5, (0,)), (5, (1, 1))), (1, 2, 3, 0)))


class ScriptTest(unittest.TestCase):

    def test_scripts(self):
        for script in SCRIPTS:
            self.assertIs(is_script(SQUARE, script), True, script)
        self.assertIs(is_script(machine=TRIVIAL, value=(0,)), True)
        self.assertIs(is_script(TRIVIAL, (1,)), False)

    def test_no_scripts(self):
        for value in NO_SCRIPTS:
            self.assertIs(is_script(SQUARE, value), False, value)

    def test_twenty_loops_within_one_another(self):
        self.assertIs(is_script(SQUARE, deep(20)), True)
        self.assertIs(is_script(SQUARE, deep(20, ())), True)
        self.assertIs(is_script(SQUARE, deep(21)), False)
        self.assertIs(is_script(SQUARE, deep(21, ())), False)
        self.assertIs(is_script(SQUARE, deep(100000)), False)
        self.assertEqual(error_of(script_change, SQUARE, deep(21)), ("InvalidQuestion", 1))

    def test_two_hundred_items(self):
        self.assertIs(is_script(SQUARE, (0,) * 200), True)
        self.assertIs(is_script(SQUARE, (0,) * 201), False)
        self.assertIs(is_script(SQUARE, ((1, (0,) * 199),)), True)
        self.assertIs(is_script(SQUARE, ((1, (0,) * 200),)), False)
        self.assertIs(is_script(SQUARE, ((1, (0,)),) * 100), True)
        self.assertIs(is_script(SQUARE, ((1, (0,)),) * 100 + (1,)), False)
        self.assertIs(is_script(SQUARE, ((1, ()),) * 200), True)
        self.assertIs(is_script(SQUARE, ((1, ()),) * 201), False)
        self.assertIs(is_script(SQUARE, deep(20, (0,) * 180)), True)
        self.assertIs(is_script(SQUARE, deep(20, (0,) * 181)), False)

    def test_very_many_items_by_few_tuples(self):
        script = (0,)
        for _ in range(20):
            script = ((1, script), (1, script))
        self.assertIs(is_script(SQUARE, script), False)

    def test_machines_with_very_many_changes(self):
        self.assertIs(is_script(HUGE, NESTED), True)
        self.assertIs(is_script(HUGE, (2,)), False)

    def test_script_change(self):
        for machine in [SQUARE, QUATERNION, TWO, KLEIN]:
            for script in SCRIPTS:
                if machine.states < 5 or str(BIG) not in str(script):
                    self.assertEqual(script_change(machine, script), plain_change(machine, script))
        self.assertEqual(script_change(machine=TURNS, script=()), (0, 1, 2))
        self.assertEqual(script_change(TURNS, (0, 1, 0)), change_of(TURNS, (0, 1, 0)))
        self.assertEqual(script_change(TURNS, ((-2, (0, 1, 1, 0)),)), power(change_of(TURNS, (0, 0)), -2))
        self.assertEqual(script_change(SQUARE, deep(20)), (1, 2, 3, 0))

    def test_what_is_no_script(self):
        for value in NO_SCRIPTS:
            for function, more in [(script_change, ()), (split_script, ((0,), 0)), (split_script, (None, None)),
                                   (join_script, ((0,),)), (join_script, (None,)), (is_loose, ()), (flat, ())]:
                self.assertEqual(error_of(function, SQUARE, value, *more), ("InvalidQuestion", 1), value)

    def test_too_many_changes_ahead_of_all_else(self):
        for machine in [OVER_400, HUGE]:
            for script in [(), NESTED, None]:
                for function, more in [(script_change, ()), (split_script, ((0,), 0)), (split_script, (None, None)),
                                       (join_script, ((0,),)), (is_loose, ()), (flat, ()), (flat_change, ())]:
                    self.assertEqual(error_of(function, machine, script, *more), REFUSED)


class SplitScriptTest(unittest.TestCase):

    def test_split_at_each_index(self):
        script = (0, (5, (0, 1, 1)), 1)
        self.assertEqual([split_script(SQUARE, script, (1,), at) for at in range(4)],
                         [(0, (5, ()), (5, (0, 1, 1)), 1), (0, (5, (0,)), (5, (1, 1)), 1),
                          (0, (5, (0, 1)), (5, (1,)), 1), (0, (5, (0, 1, 1)), (5, ()), 1)])
        self.assertEqual(split_script(machine=SQUARE, script=((0, ()),), path=(0,), at=0), ((0, ()), (0, ())))

    def test_split_within_loops(self):
        script = (1, (2, (0, (3, (1, (-3, (0, 1)), 1)))), 0)
        self.assertEqual(split_script(SQUARE, script, (1, 1, 1), 1),
                         (1, (2, (0, (3, (1, (-3, (0,)), (-3, (1,)), 1)))), 0))
        script = ((1, ((6, ()), 1, (2, (0, 1, 1, (8, (0, 1, 0)))))), 1, 0)
        self.assertEqual(split_script(SQUARE, script, (0, 2, 3), 2),
                         ((1, ((6, ()), 1, (2, (0, 1, 1, (8, (0, 1)), (8, (0,)))))), 1, 0))

    def test_join(self):
        script = ((4, (0, 1)), (4, (1, 1)), (5, ()), (5, (0,)), (4, ()))
        self.assertEqual(join_script(SQUARE, script, (0,)), ((4, (0, 1, 1, 1)), (5, ()), (5, (0,)), (4, ())))
        self.assertEqual(join_script(machine=SQUARE, script=script, path=(2,)),
                         ((4, (0, 1)), (4, (1, 1)), (5, (0,)), (4, ())))
        inner = (1, (2, (0, (-4, (1,)), (-4, (0, (7, ()))), 1)), 0)
        self.assertEqual(join_script(SQUARE, inner, (1, 1)), (1, (2, (0, (-4, (1, 0, (7, ()))), 1)), 0))
        inner = ((2, (0, 1, 0, (3, (0, (9, (1,)), (9, (0,)), 0, 1)))), 1)
        self.assertEqual(join_script(SQUARE, inner, (0, 3, 1)), ((2, (0, 1, 0, (3, (0, (9, (1, 0)), 0, 1)))), 1))

    def test_paths_that_lead_to_no_loop(self):
        for path in NO_PATHS:
            self.assertEqual(error_of(split_script, SQUARE, NESTED, path, 0), ("InvalidQuestion", 2), path)
            self.assertEqual(error_of(split_script, SQUARE, NESTED, path, None), ("InvalidQuestion", 2), path)
            self.assertEqual(error_of(join_script, SQUARE, NESTED, path), ("InvalidQuestion", 2), path)
        self.assertEqual(error_of(split_script, SQUARE, (), (0,), 0), ("InvalidQuestion", 2))

    def test_no_next_loop_with_this_count(self):
        for script in [((4, (0,)),), ((4, (0,)), 0), ((4, (0,)), (5, (0,))), ((4, (0,)), 0, (4, (0,))),
                       ((4, (0,)), (-4, (0,))), ((2, (0,)), (3, (0,))), ((2, (0,)),)]:
            self.assertEqual(error_of(join_script, SQUARE, script, (0,)), ("InvalidQuestion", 2), script)
        # The loop before it has the count, the next one has not.
        self.assertEqual(error_of(join_script, SQUARE, ((4, (0,)), (4, (0,))), (1,)), ("InvalidQuestion", 2))

    def test_indexes_to_split_at(self):
        for at in oddities() + [-1, 4, (1,), [1]]:
            self.assertEqual(error_of(split_script, SQUARE, ((5, (0, 1, 1)),), (0,), at), ("InvalidQuestion", 3), at)
            # The count is no batch number, either, but that comes last.
            self.assertEqual(error_of(split_script, SQUARE, ((2, (0, 1, 1)),), (0,), at), ("InvalidQuestion", 3), at)

    def test_no_batch_number(self):
        for count in [2, 3, -1, -2, 4 * BIG + 2]:
            self.assertEqual(error_of(split_script, SQUARE, ((count, (0, 1)),), (0,), 1), ("Refused", 1))
            self.assertEqual(error_of(split_script, SQUARE, ((count, ()),), (0,), 0), ("Refused", 1))
            self.assertEqual(error_of(join_script, SQUARE, ((count, (0,)), (count, (1,))), (0,)), ("Refused", 1))
        # It is the loop's own count that matters, whatever is around it.
        self.assertEqual(split_script(SQUARE, ((2, ((4, (0, 1)),)),), (0, 0), 1), ((2, ((4, (0,)), (4, (1,)))),))
        self.assertEqual(error_of(split_script, SQUARE, ((2, ((2, (0, 1)),)),), (0, 0), 1), ("Refused", 1))

    def test_far_counts(self):
        count = 4 * BIG + 1
        self.assertEqual(split_script(SQUARE, ((-count + 1, (0, 1)),), (0,), 1),
                         ((-count + 1, (0,)), (-count + 1, (1,))))
        self.assertEqual(join_script(SQUARE, ((count, (0,)), (count, (1,))), (0,)), ((count, (0, 1)),))

    def test_both_leave_the_change_as_it_is(self):
        for machine in [SQUARE, QUATERNION, TURNS, FIVES, KLEIN]:
            for count in [count for count in range(-12, 13) if is_batch_number(machine, count)]:
                script = (1, (3, (0, (count, (0, 1, (2, (1, 0)), 1)), 1)), 0)
                for at in range(5):
                    apart = split_script(machine, script, (1, 1), at)
                    self.assertIs(is_script(machine, apart), True)
                    self.assertEqual(script_change(machine, apart), script_change(machine, script))
                    self.assertEqual(join_script(machine, apart, (1, 1)), script)

    def test_199_items(self):
        script = ((4, (0, 1) * 99),)
        apart = split_script(SQUARE, script, (0,), 100)
        self.assertIs(is_script(SQUARE, apart), True)
        self.assertEqual(join_script(SQUARE, apart, (0,)), script)


class FlatTest(unittest.TestCase):

    def test_is_loose(self):
        for machine in [SQUARE, TURNS, KLEIN, TWENTY]:
            for script in SCRIPTS:
                told = all(is_batch_number(machine, count) for count in full_counts(script))
                self.assertIs(is_loose(machine, script), told, script)
        self.assertIs(is_loose(machine=SQUARE, script=()), True)

    def test_which_loops_matter(self):
        # One item that holds commands is none too many, however many commands it holds.
        self.assertIs(is_loose(SQUARE, ((2, (0,)),)), True)
        self.assertIs(is_loose(SQUARE, ((2, ((3, ()), 0, (1, ((5, ()),)))),)), True)
        self.assertIs(is_loose(SQUARE, ((2, ((2, (0, 1)),)),)), True)
        self.assertIs(is_loose(SQUARE, ((2, ((1, (0, 1)),)),)), False)
        self.assertIs(is_loose(SQUARE, ((2, (0, 0)),)), False)
        self.assertIs(is_loose(SQUARE, ((2, ((1, (0,)), (3, (1,)))),)), False)
        # The count of the loop itself is no batch number, but the full count is one, and the other way round.
        self.assertIs(is_loose(SQUARE, ((-1, ((3, (0, 1)),)),)), True)
        self.assertIs(is_loose(SQUARE, ((-1, ((-1, (0, 1)),)),)), True)
        self.assertIs(is_loose(SQUARE, ((-1, ((5, (0, 1)),)),)), False)
        self.assertIs(is_loose(SQUARE, ((2, ((5, (0, 1)),)),)), False)
        self.assertIs(is_loose(SQUARE, ((0, ((2, ((3, (0, 1)), 1)), 0)),)), True)

    def test_flat(self):
        self.assertEqual(flat(machine=SQUARE, script=()), ())
        self.assertEqual(flat(SQUARE, (1, 0, 0)), ((1, 1), (0, 1), (0, 1)))
        self.assertEqual(flat(SQUARE, ((4, (1, (0, (0, 1)))), (5, ()))), ((1, 4), (0, 0), (1, 0)))
        self.assertEqual(flat(SQUARE, ((-3, (0, 1)),)), ((0, -3), (1, -3)))

    def test_no_loose_script(self):
        for script in SCRIPTS:
            if not is_loose(SQUARE, script):
                self.assertEqual(error_of(flat, SQUARE, script), ("Refused", 1), script)
        self.assertEqual(error_of(flat, SQUARE, NESTED), ("Refused", 1))

    def test_a_loose_script_and_its_flat_row_have_one_change(self):
        for machine in [machine for machine in SMALL if machine.commands > 1] + [SQUARE_NINE, EXACTLY_400]:
            loose = [script for script in SCRIPTS if is_loose(machine, script)]
            self.assertGreater(len(loose), 4)
            for script in loose:
                row = flat(machine, script)
                self.assertIs(type(row), tuple)
                self.assertEqual({type(pair) for pair in row} | {tuple}, {tuple})
                self.assertEqual(flat_change(machine, row), script_change(machine, script))

    def test_flat_change(self):
        one, other = change_of(TURNS, (0,)), change_of(TURNS, (1,))
        self.assertEqual(flat_change(machine=TURNS, value=()), (0, 1, 2))
        self.assertEqual(flat_change(TURNS, ((0, 2), (1, -3), (0, 0))), then(times(one, 2), times(other, -3)))
        self.assertEqual(flat_change(TURNS, ((1, 1), (0, 1))), then(other, one))

    def test_six_hundred_digits(self):
        script = (0,)
        for _ in range(20):
            script = ((10 ** 30 - 2, script),)
        row = flat(TURNS, script)
        self.assertEqual(row, ((0, (10 ** 30 - 2) ** 20),))
        # The counts leave 2 by 3: so twenty times over 1 is left.
        self.assertEqual(flat_change(TURNS, row), change_of(TURNS, (0,)))
        self.assertEqual(flat_change(TURNS, ((0, -row[0][1]),)), change_of(TURNS, (0, 0)))
        self.assertEqual(script_change(TURNS, script), change_of(TURNS, (0,)))

    def test_no_flat_row(self):
        for value in oddities() + [0, [], [(0, 1)], (0, 1), ((0,),), ((0, 1, 1),), ([0, 1],), ((2, 1),), ((-1, 1),),
                                   ((True, 1),), ((0, True),), ((0, 1.0),), ((0, 1), (0, None)), ((0, "1"),), ((),),
                                   (((0,), 1),), (None,)]:
            self.assertEqual(error_of(flat_change, TURNS, value), ("InvalidQuestion", 1), value)

    def test_nothing_that_is_passed_is_changed(self):
        before = repr(SCRIPTS)
        for script in SCRIPTS:
            script_change(SQUARE, script)
            self.assertEqual(is_loose(SQUARE, script), is_loose(SQUARE, script))
        self.assertEqual(repr(SCRIPTS), before)
        self.assertEqual(len(changes(SQUARE)), 8)
