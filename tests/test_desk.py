"""Points 55 and 56: desks, at which a bench is used by texts."""

import unittest

from batchnumbers.batches import is_batch_number, moduli
from batchnumbers.bench import Bench
from batchnumbers.desk import Desk
from batchnumbers.machines import Machine
from batchnumbers.rests import next_fitting
from batchnumbers.scripts import script_change
from tests.helpers import (BIG, EXACTLY_400, FIVES, KLEIN, LARGE, OVER_400, PAIR, SMALL, SQUARE, THREES, TRIVIAL, TURNS, TWENTY,
                           beside, error_of, oddities)

INVALID = ("InvalidCommand", None)
SQUARE_TEXT = "machine 2 4 1 0 2 3 3 2 0 1"
# Commands that want a bench, each in a form that does something on a desk with the script of `filled`.
WANTING = ["loop 4 0 1", "do 0", "split 0 1", "join 2", "effect", "batch 4", "moduli", "next 2", "undo"]
NO_NUMBERS = ["", "00", "01", "-0", "-00", "-01", "+1", "1.0", "1e3", "a", "-", "--1", "1-", "0x1", "1_0", "\u0661", "\u00b2",
              "1234567890", "-1234567890", "1000000000", "0000000001", "\t1", "1\t", "1,", "None", "True"]
NO_COMMANDS = ["", " ", "  ", "effect ", " effect", "effect  ", "Effect", "EFFECT", "effects", "effect\n", "\neffect",
               "effect\nmoduli", "moduli\r", "effect\t", "do", "do 0 1", "do  0", "do 0 ", " do 0", "do\t0", "do 0\n", "loop",
               "loop 4", "loop 4 ", "loop  4 0", "loop 4  0", "loop 4 0  1", "loop 4 0 1 ", "split", "split 0", "split 0 1 1",
               "split  0 1", "join", "join 0 0", "join 2 ", "effect 0", "batch", "batch 4 4", "moduli 0", "next", "next 2 2",
               "undo 1", "undo ", "machine", "machine 2", "machine 2 4", "machine  2 4 1 0 2 3 3 2 0 1", "0", "4 0", "put 0 0",
               "take 0", "script", "machines 1 1 0", "do 0;", "do zero", "loop 4 0 one", "do 0\ndo 1"]


def machine_text(machine):
    """The command that tells the machine."""
    words = ["machine", machine.commands, machine.states] + [state for entry in machine.steps for state in entry]
    return " ".join(str(word) for word in words)


def desk_with(machine, *commands):
    desk = Desk()
    for command in (machine_text(machine),) + commands:
        assert desk.say(command) == "ok"
    return desk


def filled():
    return desk_with(SQUARE, "loop 5 0 1 1", "do 1", "loop 4 0", "loop 4 1 0")


def look(desk):
    """What can be seen of a desk."""
    bench = desk.bench
    return bench if bench is None else (bench, bench.machine, bench.script(), len(bench))


class DeskTest(unittest.TestCase):

    def check_error(self, desk, command, told):
        """The command raises this error and changes nothing."""
        before = look(desk)
        self.assertEqual(error_of(desk.say, command), told, command)
        self.assertEqual(look(desk), before)


class MachineTest(DeskTest):

    def test_at_first_there_is_no_bench(self):
        self.assertIsNone(Desk().bench)
        for command in WANTING:
            self.check_error(Desk(), command, INVALID)

    def test_state_by_state(self):
        for machine in SMALL + LARGE + [EXACTLY_400]:
            desk = Desk()
            self.assertEqual(desk.say(machine_text(machine)), "ok")
            self.assertIs(type(desk.bench), Bench)
            self.assertEqual(look(desk)[1:], (machine, (), 0))
        desk = Desk()
        self.assertEqual(desk.say(command=SQUARE_TEXT), "ok")
        self.assertEqual(desk.bench.machine, SQUARE)
        self.assertEqual(desk.say("machine 1 1 0"), "ok")
        self.assertEqual(desk.bench.machine, TRIVIAL)

    def test_a_new_bench_each_time(self):
        desk = filled()
        before = desk.bench
        script = before.script()
        self.assertEqual(desk.say(SQUARE_TEXT), "ok")
        self.assertIsNot(desk.bench, before)
        self.assertEqual(look(desk)[1:], (SQUARE, (), 0))
        self.assertEqual((before.script(), len(before)), (script, 4))
        self.assertEqual(desk.say("undo"), "nothing")

    def test_another_count_of_numbers(self):
        for desk in [Desk(), filled()]:
            for command in ["machine", "machine 1", "machine 1 1", "machine 1 0", "machine 7 0", "machine 1 2 1", "machine 1 2 1 0 0", "machine 2 2 1 0 0",
                            "machine 2 1 0", "machine 0 0", "machine 0 1", "machine 0 0 0", "machine 0 2 0 0", "machine 1 0 0",
                            "machine -1 -1 0", "machine -1 -2 0 1", "machine -1 1 0", "machine 1 -1 0", "machine 2 -1 0 0",
                            "machine 999999999 1 0", "machine 999999999 999999999 0", SQUARE_TEXT + " 0", SQUARE_TEXT[:-2]]:
                self.check_error(desk, command, INVALID)

    def test_what_is_no_machine(self):
        for desk in [Desk(), filled()]:
            for command, at in [("machine 1 1 1", 2), ("machine 1 2 1 2", 3), ("machine 1 2 2 1", 2), ("machine 1 2 -1 0", 2),
                                ("machine 2 2 0 0 1 -1", 3), ("machine 1 2 1 1", 4), ("machine 2 2 0 0 1 0", 5),
                                ("machine 2 3 1 0 2 2 0 2", 6), ("machine 1 3 0 0 3", 4), ("machine 1 2 0 999999999", 3)]:
                self.check_error(desk, command, ("InvalidMachine", at))


class ScriptTest(DeskTest):

    def test_loops_and_commands_at_the_end(self):
        desk = desk_with(SQUARE)
        script = ()
        for command, item in [("do 1", 1), ("loop 4 0", (4, (0,))), ("loop -3 0 1 1 0", (-3, (0, 1, 1, 0))), ("do 0", 0),
                              ("loop 0 1 1", (0, (1, 1))), ("loop 999999999 0", (999999999, (0,))),
                              ("loop -999999999 1", (-999999999, (1,)))]:
            self.assertEqual(desk.say(command), "ok")
            script = script + (item,)
            self.assertEqual((desk.bench.script(), len(desk.bench)), (script, len(script)))
            self.assertEqual(desk.say("effect"), " ".join(str(state) for state in script_change(SQUARE, script)))

    def test_what_is_no_command_of_the_machine(self):
        desk = filled()
        for command in ["do 2", "do -1", "do 999999999", "loop 4 2", "loop 4 0 -1", "loop 2 0 1 0 7", "loop 0 5"]:
            self.check_error(desk, command, ("InvalidQuestion", 1))
        self.check_error(desk_with(TRIVIAL), "do 1", ("InvalidQuestion", 1))

    def test_two_hundred_items(self):
        desk = desk_with(PAIR, "loop 3" + " 0" * 198)
        self.assertEqual(desk.say("do 0"), "ok")
        self.check_error(desk, "do 0", ("InvalidQuestion", 1))
        self.check_error(desk, "loop 1 0", ("InvalidQuestion", 1))
        self.check_error(desk_with(PAIR), "loop 1" + " 0" * 200, ("InvalidQuestion", 1))
        self.assertEqual(desk_with(PAIR, "loop 1" + " 0" * 199).bench.script(), ((1, (0,) * 199),))

    def test_split_and_join(self):
        desk = filled()
        self.assertEqual(desk.say("split 0 1"), "ok")
        self.assertEqual(desk.bench.script(), ((5, (0,)), (5, (1, 1)), 1, (4, (0,)), (4, (1, 0))))
        self.assertEqual(desk.say("join 3"), "ok")
        self.assertEqual(desk.bench.script(), ((5, (0,)), (5, (1, 1)), 1, (4, (0, 1, 0))))
        self.assertEqual([desk.say("undo"), desk.say("undo"), desk.say("split 0 0")], ["ok"] * 3)
        self.assertEqual(desk.bench.script(), ((5, ()), (5, (0, 1, 1)), 1, (4, (0,)), (4, (1, 0))))

    def test_with_their_errors(self):
        desk = filled()
        for command, told in [("split 1 0", ("InvalidQuestion", 2)), ("split 4 0", ("InvalidQuestion", 2)),
                              ("split -1 0", ("InvalidQuestion", 2)), ("split 0 4", ("InvalidQuestion", 3)),
                              ("split 0 -1", ("InvalidQuestion", 3)), ("split 9 -1", ("InvalidQuestion", 2)),
                              ("join 0", ("InvalidQuestion", 2)), ("join 1", ("InvalidQuestion", 2)),
                              ("join 3", ("InvalidQuestion", 2)), ("join -1", ("InvalidQuestion", 2))]:
            self.check_error(desk, command, told)
        desk = desk_with(SQUARE, "loop 2 0 1", "loop 2 1")
        for command in ["split 0 1", "split 1 0", "join 0"]:
            self.check_error(desk, command, ("Refused", 1))

    def test_undo(self):
        desk = desk_with(TURNS)
        self.assertEqual(desk.say("undo"), "nothing")
        self.assertEqual([desk.say(command) for command in ["do 0", "loop 7 0 1", "split 1 1", "undo", "undo"]], ["ok"] * 5)
        self.assertEqual(look(desk)[2:], ((0,), 1))
        self.assertEqual([desk.say("undo"), desk.say("undo"), desk.say("undo")], ["ok", "nothing", "nothing"])
        self.assertEqual(look(desk)[2:], ((), 0))

    def test_the_bench_may_be_used_beside_it(self):
        desk = desk_with(TURNS, "do 0")
        desk.bench.put(0, (6, ((1, (0,)), 1)))
        self.assertEqual(desk.say("split 0 1"), "ok")
        self.assertEqual(desk.bench.script(), ((6, ((1, (0,)),)), (6, (1,)), 0))
        self.assertIs(desk.bench.undo(), True)
        self.assertEqual([desk.say("undo"), desk.say("undo"), desk.say("undo")], ["ok", "ok", "nothing"])


class AnswersTest(DeskTest):

    def test_effect(self):
        for machine in SMALL:
            desk = desk_with(machine, "do 0", "loop -2 0 0 0", "do " + str(machine.commands - 1))
            told = script_change(machine, (0, (-2, (0, 0, 0)), machine.commands - 1))
            self.assertEqual(desk.say("effect"), " ".join(str(state) for state in told))
        self.assertEqual(filled().say("effect"), "3 2 1 0")
        self.assertEqual(desk_with(TRIVIAL).say("effect"), "0")
        self.assertEqual(desk_with(TURNS).say("effect"), "0 1 2")

    def test_batch(self):
        for machine in SMALL + LARGE:
            desk = desk_with(machine)
            for count in list(range(-13, 22)) + [999999999, -999999999, 420000001]:
                self.assertEqual(desk.say("batch " + str(count)), "yes" if is_batch_number(machine, count) else "no")

    def test_moduli(self):
        for machine in SMALL + LARGE + [EXACTLY_400]:
            lot = moduli(machine)
            self.assertEqual(desk_with(machine).say("moduli"), " ".join(str(modulus) for modulus in lot) if lot else "none")
        for machine, told in [(TURNS, "6"), (KLEIN, "none"), (TRIVIAL, "none"), (TWENTY, "20"),
                              (beside(SQUARE, THREES), "3 4")]:
            self.assertEqual(desk_with(machine).say("moduli"), told)

    def test_next(self):
        for machine in SMALL + LARGE:
            desk, lot = desk_with(machine), moduli(machine)
            for count in list(range(-13, 22)) + [999999999, -999999999]:
                self.assertEqual(desk.say("next " + str(count)), str(next_fitting(lot, count)))
        for machine in SMALL[:9]:
            desk = desk_with(machine)
            for count in range(-13, 14):
                told = count
                while not is_batch_number(machine, told):
                    told += 1
                self.assertEqual(desk.say("next " + str(count)), str(told))
        # In answers there may be ten digits.
        self.assertEqual(desk_with(TURNS).say("next 999999999"), "1000000002")
        self.assertEqual(desk_with(TURNS).say("next -5"), "-5")
        self.assertEqual(desk_with(TURNS).say("next -4"), "0")

    def test_answers_leave_the_bench_as_it_is(self):
        desk = filled()
        before = look(desk)
        for command in ["effect", "batch 4", "batch 2", "moduli", "next 2"]:
            self.assertEqual(desk.say(command), desk.say(command))
            self.assertIs(type(desk.say(command)), str)
            self.assertEqual(look(desk), before)

    def test_too_many_changes(self):
        desk = desk_with(OVER_400)
        for command in ["effect", "batch 2", "moduli", "next 2"]:
            self.check_error(desk, command, ("Refused", 0))


class InvalidTest(DeskTest):

    def test_what_has_none_of_the_forms(self):
        for desk in [Desk(), filled()]:
            for command in NO_COMMANDS:
                self.check_error(desk, command, INVALID)

    def test_what_is_no_string(self):
        for desk in [Desk(), filled()]:
            for value in [value for value in oddities() if not isinstance(value, str)] + [0, (), ["undo"], ("effect",), b"effect", BIG]:
                self.check_error(desk, value, INVALID)

    def test_what_is_no_number(self):
        for desk in [Desk(), filled()]:
            for word in NO_NUMBERS:
                for command in ["do " + word, "loop " + word + " 0", "loop 4 " + word, "loop 4 0 " + word, "split " + word + " 0",
                                "split 0 " + word, "join " + word, "batch " + word, "next " + word, "machine " + word + " 1 0",
                                "machine 1 " + word + " 0", "machine 1 1 " + word, "machine 1 2 1 " + word]:
                    self.check_error(desk, command, INVALID)

    def test_newlines_and_spaces_in_each_command(self):
        for desk in [Desk(), filled()]:
            for command in WANTING + [SQUARE_TEXT]:
                for wrong in [command + "\n", "\n" + command, command + " ", " " + command, command.replace(" ", "  ", 1) + " ",
                              command.replace(" ", "\n"), command.replace(" ", "\t") + "\n", command.upper(), command + " x",
                              command + "\n" + command]:
                    if wrong != command:
                        self.check_error(desk, wrong, INVALID)

    def test_other_errors_change_nothing(self):
        desk = filled()
        for command, told in [("do 9", ("InvalidQuestion", 1)), ("machine 1 1 1", ("InvalidMachine", 2)),
                              ("split 1 1", ("InvalidQuestion", 2)), ("machine 1 2 0 0", ("InvalidMachine", 4))]:
            self.check_error(desk, command, told)
        self.assertEqual(desk.say("undo"), "ok")


class ByTurnsTest(DeskTest):

    def test_two_desks_answer_as_each_alone_does(self):
        def answers(machine):
            desk = Desk()
            for command in [machine_text(machine), "do 1", "loop 12 0 1", "effect", "split 1 1", "moduli", "batch 6", "next 2",
                            "undo", "effect", "do 9", "undo", "undo", "undo", "effect"]:
                yield error_of(desk.say, command) or desk.say(command)

        for one, other in [(TURNS, SQUARE), (SQUARE, SQUARE), (KLEIN, FIVES)]:
            alone = [list(answers(one)), list(answers(other))]
            together = list(zip(answers(one), answers(other)))
            self.assertEqual([list(side) for side in zip(*together)], alone)

    def test_desks_equal_no_value_of_another_kind(self):
        for value in oddities() + [(), 0, Bench(TURNS), Machine]:
            self.assertFalse(Desk() == value)
