"""Points 51 and 52: benches."""

import unittest

from batchnumbers.batches import batch_fault, is_batch_number
from batchnumbers.bench import Bench
from batchnumbers.changes import change_of
from batchnumbers.errors import BatchError, Refused
from batchnumbers.machines import Machine
from batchnumbers.scripts import flat, is_loose, is_script, join_script, script_change, split_script
from tests.helpers import (BIG, FIVES, KLEIN, QUATERNION, SMALL, SQUARE, STILL, TRIVIAL, TURNS, TWENTY, error_of, oddities)
from tests.test_scripts import NESTED, NO_PATHS, SCRIPTS, deep

NO_ITEMS = oddities() + [-1, 2, (), (0,), [0], (1, [0]), [1, (0,)], (1, (0,), 0), (True, (0,)), (1.0, (0,)), (1, (2,)),
                         (1, (0, None)), (1, 0), (1, None), (2, ((3, (0, [1])),)), deep(21)[0], (1, (0,) * 200)]
NO_INDEXES = oddities() + [-1, (), (0,), [0], BIG]


def bench_with(machine, script):
    """A bench with the items of the script, put at the end one by one."""
    bench = Bench(machine)
    for at, item in enumerate(script):
        bench.put(at, item)
    return bench


def look(bench):
    """What can be seen of a bench."""
    return bench.script(), len(bench), bench.machine


def script_and_change(bench):
    """The script and its change, and something done that is undone behind it."""
    bench.put(0, 0)
    return bench.script(), bench.effect()


class Failure(Exception):
    """An error that is none of the package's own."""


class BenchTest(unittest.TestCase):

    def check_error(self, bench, deed, arguments, told):
        """The deed raises this error and changes nothing."""
        before = look(bench)
        self.assertEqual(error_of(deed, *arguments), told, arguments)
        self.assertEqual(look(bench), before)


class NewBenchTest(BenchTest):

    def test_the_empty_script(self):
        for machine in SMALL:
            bench = Bench(machine)
            self.assertIs(bench.machine, machine)
            self.assertEqual((bench.script(), len(bench)), ((), 0))
            self.assertEqual((bench.effect(), bench.loose(), bench.flat()), (tuple(range(machine.states)), True, ()))
            self.assertIs(bench.undo(), False)
            self.assertEqual((bench.script(), len(bench)), ((), 0))
        self.assertEqual(Bench(machine=TURNS).script(), ())

    def test_what_is_no_machine(self):
        for value in oddities() + [0, (), [], (2, TURNS.steps), TURNS.steps, (TURNS,), [TURNS], Machine, Bench(TURNS)]:
            self.assertEqual(error_of(Bench, value), ("Refused", 0), value)

    def test_it_equals_no_value_of_another_kind(self):
        for value in oddities() + [(), 0, TURNS]:
            self.assertFalse(Bench(TURNS) == value)
            self.assertTrue(Bench(TURNS) != value)


class QuestionsTest(BenchTest):

    def test_as_the_functions_tell(self):
        for machine in [SQUARE, TURNS, KLEIN, QUATERNION, TWENTY]:
            for script in SCRIPTS:
                bench = bench_with(machine, script)
                self.assertEqual(look(bench), (script, len(script), machine))
                self.assertEqual(bench.effect(), script_change(machine, script))
                self.assertIs(bench.loose(), is_loose(machine, script))
                if bench.loose():
                    self.assertEqual(bench.flat(), flat(machine, script))
                else:
                    self.check_error(bench, bench.flat, (), ("Refused", 1))
                self.assertEqual(look(bench), (script, len(script), machine))

    def test_what_is_told_can_be_kept(self):
        bench = bench_with(SQUARE, NESTED)
        script, effect = bench.script(), bench.effect()
        bench.take(1)
        bench.put(0, 1)
        bench.undo()
        self.assertEqual((script, effect), (NESTED, script_change(SQUARE, NESTED)))
        self.assertEqual(bench.script(), NESTED[:1] + NESTED[2:])


class PutTest(BenchTest):

    def test_ahead_of_the_index_or_at_the_end(self):
        bench = Bench(SQUARE)
        for at, item, script in [(0, 1, (1,)), (0, 0, (0, 1)), (2, (5, (0, 1)), (0, 1, (5, (0, 1)))),
                                 (1, (0, ()), (0, (0, ()), 1, (5, (0, 1)))), (4, 0, (0, (0, ()), 1, (5, (0, 1)), 0)),
                                 (3, (-BIG, (1,)), (0, (0, ()), 1, (-BIG, (1,)), (5, (0, 1)), 0))]:
            self.assertIsNone(bench.put(at, item))
            self.assertEqual(bench.script(), script)
        self.assertEqual(len(bench), 6)
        self.assertIsNone(Bench(TURNS).put(at=0, item=1))

    def test_what_is_no_index(self):
        for script in [(), (0,), NESTED]:
            bench = bench_with(SQUARE, script)
            for at in NO_INDEXES + [len(script) + 1]:
                self.check_error(bench, bench.put, (at, 0), ("InvalidQuestion", 0))
                # The item is none, either, but the index is looked at first.
                self.check_error(bench, bench.put, (at, None), ("InvalidQuestion", 0))

    def test_what_is_no_item(self):
        for script in [(), (0,), NESTED]:
            bench = bench_with(SQUARE, script)
            for item in NO_ITEMS:
                for at in {0, len(script)}:
                    self.check_error(bench, bench.put, (at, item), ("InvalidQuestion", 1))
        bench = Bench(TRIVIAL)
        self.check_error(bench, bench.put, (0, 1), ("InvalidQuestion", 1))

    def test_two_hundred_items(self):
        bench = Bench(SQUARE)
        for at in range(200):
            bench.put(at // 2, at % 2)
        self.assertEqual((len(bench.script()), len(bench)), (200, 200))
        self.assertEqual(bench.effect(), script_change(SQUARE, bench.script()))
        for item in [0, 1, (1, ()), (1, (0,))]:
            for at in [0, 100, 200]:
                self.check_error(bench, bench.put, (at, item), ("InvalidQuestion", 1))
        bench.take(7)
        self.check_error(bench, bench.put, (0, (1, (0,))), ("InvalidQuestion", 1))
        bench.put(0, (1, ()))
        self.assertEqual(len(bench.script()), 200)
        self.assertEqual(bench_with(SQUARE, ((1, (0,) * 199),)).script(), ((1, (0,) * 199),))

    def test_twenty_loops_within_one_another(self):
        bench = bench_with(SQUARE, deep(20) + deep(20, ()))
        self.assertEqual(bench.script(), deep(20) + deep(20, ()))
        self.check_error(bench, bench.put, (0, deep(21)[0]), ("InvalidQuestion", 1))
        self.check_error(bench, bench.put, (0, deep(21, ())[0]), ("InvalidQuestion", 1))
        self.check_error(bench, bench.put, (0, deep(5000)[0]), ("InvalidQuestion", 1))
        self.assertEqual(bench.effect(), change_of(SQUARE, (0,)))


class TakeTest(BenchTest):

    def test_each_item(self):
        for at in range(len(NESTED)):
            bench = bench_with(SQUARE, NESTED)
            self.assertIsNone(bench.take(at))
            self.assertEqual(look(bench), (NESTED[:at] + NESTED[at + 1:], 4, SQUARE))
            self.assertIs(bench.undo(), True)
            self.assertEqual(look(bench), (NESTED, 3, SQUARE))
        bench = bench_with(STILL, (1,))
        bench.take(at=0)
        self.assertEqual(bench.script(), ())

    def test_where_there_is_none(self):
        for script in [(), (0,), NESTED]:
            bench = bench_with(SQUARE, script)
            for at in NO_INDEXES + [len(script), len(script) + 1]:
                self.check_error(bench, bench.take, (at,), ("InvalidQuestion", 0))


class SplitAndJoinTest(BenchTest):

    def test_as_the_functions_do(self):
        for script, path, at in [(((5, (0, 1, 1)),), (0,), 1), ((1, (2, (0, (4, (1, 0)))), 0), (1, 1), 0),
                                 ((0, (-3, (0, 1)), (-4, ())), (2,), 0), ((0, (-3, (0, 1)), (-4, ())), (1,), 2)]:
            bench = bench_with(SQUARE, script)
            before = bench.effect()
            self.assertIsNone(bench.split(path, at))
            apart = bench.script()
            self.assertEqual(apart, split_script(SQUARE, script, path, at))
            self.assertEqual((len(bench), bench.effect()), (len(script) + 1, before))
            self.assertIsNone(bench.join(path))
            self.assertEqual(bench.script(), join_script(SQUARE, apart, path))
            self.assertEqual((bench.script(), len(bench), bench.effect()), (script, len(script) + 2, before))
            self.assertEqual([bench.undo(), bench.script(), bench.undo(), bench.script()], [True, apart, True, script])
        bench = bench_with(SQUARE, ((4, (0, 1)), (4, ())))
        bench.join(path=(0,))
        bench.split(path=(0,), at=0)
        self.assertEqual(bench.script(), ((4, ()), (4, (0, 1))))

    def test_with_their_errors(self):
        bench = bench_with(SQUARE, NESTED)
        for path in NO_PATHS:
            for at in [0, None]:
                self.check_error(bench, bench.split, (path, at), ("InvalidQuestion", 2))
            self.check_error(bench, bench.join, (path,), ("InvalidQuestion", 2))
        for path, at, told in [((1,), 3, ("InvalidQuestion", 3)), ((1,), -1, ("InvalidQuestion", 3)),
                               ((1,), True, ("InvalidQuestion", 3)), ((1,), 1, ("Refused", 1)), ((2,), 0, ("Refused", 1)),
                               ((2, 0), 2, ("InvalidQuestion", 3)), ((2, 0), 1, ("Refused", 1))]:
            self.check_error(bench, bench.split, (path, at), told)
        bench = bench_with(SQUARE, ((2, (0,)), (2, (1,)), (4, ()), (5, ()), 1))
        for path, told in [((0,), ("Refused", 1)), ((1,), ("InvalidQuestion", 2)), ((2,), ("InvalidQuestion", 2)),
                           ((3,), ("InvalidQuestion", 2))]:
            self.check_error(bench, bench.join, (path,), told)

    def test_199_items(self):
        bench = bench_with(SQUARE, ((4, (0, 1) * 99),))
        bench.split((0,), 100)
        self.assertIs(is_script(SQUARE, bench.script()), True)
        self.assertEqual(bench.effect(), script_change(SQUARE, ((4, (0, 1) * 99),)))
        # Now there are 200.
        self.check_error(bench, bench.put, (0, 1), ("InvalidQuestion", 1))

    def test_effects_never_change(self):
        for machine in [SQUARE, TURNS, FIVES, QUATERNION]:
            for count in range(-12, 13):
                bench = bench_with(machine, (1, (count, (0, 1, (2, (1, 0)))), 0))
                before = bench.effect()
                for at in range(4):
                    try:
                        bench.split((1,), at)
                        self.assertEqual(bench.effect(), before)
                        bench.join((1,))
                    except Refused:
                        self.assertFalse(is_batch_number(machine, count))
                    self.assertEqual(bench.effect(), before)

    def test_counts_that_would_change_the_effect(self):
        for machine in [SQUARE, TURNS, FIVES]:
            for count in [count for count in range(-9, 10) if not is_batch_number(machine, count)]:
                one, other, state = batch_fault(machine, count)
                together = bench_with(machine, ((count, one + other),))
                apart = bench_with(machine, ((count, one), (count, other)))
                self.assertNotEqual(together.effect()[state], apart.effect()[state])
                self.check_error(together, together.split, ((0,), len(one)), ("Refused", 1))


class UndoTest(BenchTest):

    def test_deed_by_deed(self):
        bench = Bench(SQUARE)
        deeds = [lambda: bench.put(0, (4, (0, 1))), lambda: bench.put(1, 1), lambda: bench.split((0,), 1),
                 lambda: bench.take(2), lambda: bench.join((0,)), lambda: bench.put(0, 0), lambda: bench.take(0),
                 lambda: bench.take(0)]
        seen = [bench.script()]
        for at, deed in enumerate(deeds):
            deed()
            seen.append(bench.script())
            self.assertEqual(len(bench), at + 1)
        self.assertEqual(seen[-1], ())
        for at in reversed(range(len(deeds))):
            self.assertIs(bench.undo(), True)
            self.assertEqual((bench.script(), len(bench)), (seen[at], at))
        self.assertIs(bench.undo(), False)
        self.assertEqual((bench.script(), len(bench)), ((), 0))

    def test_what_raised_an_error_is_not_undone(self):
        bench = bench_with(SQUARE, (0, 1))
        self.check_error(bench, bench.put, (0, 7), ("InvalidQuestion", 1))
        self.check_error(bench, bench.take, (2,), ("InvalidQuestion", 0))
        self.assertIs(bench.undo(), True)
        self.assertEqual(look(bench), ((0,), 1, SQUARE))

    def test_deeds_behind_what_was_undone(self):
        bench = bench_with(SQUARE, (0, 1))
        bench.undo()
        bench.put(0, (3, ()))
        self.assertEqual(look(bench), (((3, ()), 0), 2, SQUARE))
        self.assertEqual([bench.undo(), bench.undo(), bench.undo()], [True, True, False])

    def test_many_deeds(self):
        bench = Bench(TURNS)
        for _ in range(2000):
            bench.put(0, 1)
            bench.take(0)
        self.assertEqual(len(bench), 4000)
        for _ in range(3999):
            bench.undo()
        self.assertEqual(look(bench), ((1,), 1, TURNS))


class WithinTest(BenchTest):

    def test_it_returns_what_the_work_returns(self):
        bench = bench_with(SQUARE, NESTED)
        for told in [None, 0, True, [1, 2], (), "x", bench]:
            self.assertIs(bench.within(lambda held: told), told)
        self.assertIs(bench.within(work=lambda held: held), bench)
        self.assertEqual(bench.within(script_and_change), ((0,) + NESTED, script_change(SQUARE, (0,) + NESTED)))
        self.assertEqual(look(bench), (NESTED, 3, SQUARE))

    def test_all_its_deeds_are_undone(self):
        bench = bench_with(SQUARE, ((4, (0, 1)), 1))
        before = look(bench)

        def work(held):
            held.split((0,), 1)
            held.take(2)
            held.put(0, 0)
            held.undo()
            held.put(1, 1)
            return len(held), held.script()

        self.assertEqual(bench.within(work), (5, ((4, (0,)), 1, (4, (1,)))))
        self.assertEqual(look(bench), before)
        self.assertEqual([bench.undo(), bench.script(), bench.undo(), bench.undo()], [True, ((4, (0, 1)),), True, False])

    def test_it_may_undo_what_it_did(self):
        bench = bench_with(SQUARE, (0, 1))
        self.assertEqual(bench.within(lambda held: (held.put(0, 1), held.undo(), held.script())), (None, True, (0, 1)))
        self.assertEqual(look(bench), ((0, 1), 2, SQUARE))

    def test_errors_are_passed_on(self):
        for script in [(), (0, 1), NESTED]:
            bench = bench_with(SQUARE, script)
            for error in [Failure("told"), Refused(5), BatchError(), KeyError(3), KeyboardInterrupt()]:

                def work(held):
                    held.put(0, 1)
                    held.put(0, (2, (1,)))
                    raise error

                with self.assertRaises(error.__class__) as caught:
                    bench.within(work)
                self.assertIs(caught.exception, error)
                self.assertEqual(look(bench), (script, len(script), SQUARE))
            self.check_error(bench, bench.within, (lambda held: held.put(0, 1) or held.put(0, 9),), ("InvalidQuestion", 1))

    def test_one_within_another(self):
        bench = bench_with(SQUARE, (0,))
        seen = []

        def inner(held):
            held.put(0, (1, ()))
            seen.append(look(held))
            raise Failure()

        def outer(held):
            held.put(1, 1)
            try:
                held.within(inner)
            except Failure:
                seen.append(look(held))
            held.put(2, 0)
            return held.within(lambda again: (again.take(0), again.script())), look(held)

        self.assertEqual(bench.within(outer), ((None, (1, 0)), ((0, 1, 0), 3, SQUARE)))
        self.assertEqual(seen, [(((1, ()), 0, 1), 3, SQUARE), ((0, 1), 2, SQUARE)])
        self.assertEqual(look(bench), ((0,), 1, SQUARE))


class ByTurnsTest(BenchTest):

    def test_two_benches_answer_as_each_alone_does(self):
        def steps(machine):
            bench = Bench(machine)
            yield look(bench)
            for deed in [lambda: bench.put(0, (6, (0, 1, 0))), lambda: bench.split((0,), 1), lambda: bench.put(1, 1),
                         lambda: bench.take(1), lambda: bench.undo(), lambda: bench.undo(), lambda: bench.join((0,)),
                         lambda: bench.within(script_and_change), lambda: bench.put(1, (2, (0, 1))), lambda: bench.flat()]:
                told = error_of(deed)
                yield told, look(bench), bench.effect(), bench.loose()

        for one, other in [(TURNS, SQUARE), (SQUARE, SQUARE), (FIVES, TURNS)]:
            alone = [list(steps(one)), list(steps(other))]
            together = list(zip(steps(one), steps(other)))
            self.assertEqual([list(side) for side in zip(*together)], alone)
            self.assertEqual(len(together), 11)
