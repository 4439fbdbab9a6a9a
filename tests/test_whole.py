"""Points 1, 2 and 3 over the whole program: what holds for all functions of the interface."""

import copy
import doctest
import os
import unittest
from importlib import import_module

import batchnumbers
from batchnumbers.bench import Bench
from batchnumbers.changes import change_of, changes, orders
from batchnumbers.desk import Desk
from batchnumbers.errors import BatchError
from batchnumbers.machines import Machine
from tests.helpers import BIG, FIVES, KLEIN, QUATERNION, SQUARE, TURNS, TWO, oddities
from tests.test_desk import machine_text
from tests.test_interface import INTERFACE

MACHINES = [TURNS, SQUARE, TWO, KLEIN, QUATERNION, FIVES]
SCRIPT = (0, (12, (1, (2, (0, 1)), 0)), 1)
CLASSES = ["Machine(commands, steps)", "Bench(machine)", "Desk()"]
# The functions that are asked by "whether".
WHETHER = ["never_matters", "change_places", "fits", "go_along", "along", "follows", "forces", "splits_into", "may_move",
           "alike", "suits", "couples_tell", "sheet_holds"]


def alone():
    """Questions that name no machine: (module, function, arguments), with lists wherever sequences will do."""
    one, other = (1, 2, 0), (0, 2, 1)
    return [
        ("changes", "checked_change", (3, one)), ("changes", "followed", (one, other)), ("changes", "back", (one,)),
        ("changes", "power", (one, -BIG)), ("changes", "order", (one,)), ("changes", "change_places", (one, other)),
        ("changes", "loop", (one, other, 5)), ("changes", "split_loop", (one, other, 5)),
        ("texts", "read_machine", ("machine 1 2\n1\n0",)), ("rests", "is_lot", ((3, 4),)), ("rests", "is_lot", ([3, 4],)),
        ("rests", "fits", ((3, 4), 9)), ("rests", "residues", ((3, 4),)), ("rests", "next_fitting", ((3, 4), 5)),
        ("rests", "fitting_between", ((3, 4), -9, 30)), ("knotted", "merged", ([2, 6, 1, 21, 5],)),
        ("following", "lot_of", ([10, 21],)), ("following", "follows", ([4, 9], 12)), ("following", "doubt", ([3, 4], 5)),
        ("following", "is_doubt", ([3, 4], 5, 3)), ("forcing", "forces", ([3, 5],)), ("forcing", "least_forcing", ([2, 7],)),
        ("forcing", "is_least_forcing", ([3, 4, 5], (0, 2))), ("lots", "is_coarser", ((3,), (12,))),
        ("lots", "common_lot", ((12,), (4, 21))), ("lots", "telling_counts", ((3, 4, 5),)),
        ("shelves", "is_shelving", ((5, (1, 4, 0)),)), ("shelves", "shelf_machine", ((2, (0, 1)),)),
        ("walks", "walk_sum", ((5, (1, 4, 0)), 0, 1, 4)), ("walks", "jump_fault", ((5, (1, 4, 0)), 4)),
        ("walks", "is_jump_fault", ((5, (1, 4, 0)), 4, (0, 1))), ("folding", "shelf_moduli", ((5, (1, 4, 0)),)),
        ("folding", "folded", ((2, (0, 1)), (3, (1, 2)))), ("folding", "shelving_for", ((3, 4),)),
        ("folding", "against", ([3, 4], 5)), ("patterns", "tally", ((1, 0, 1),)), ("patterns", "crossings", ((1, 0, 1, 0),)),
        ("mild", "gap", (one, other)), ("mild", "batch_moduli", (12,)), ("swaps", "harmless_swaps", ((1, 1, 0, 0), 3)),
        ("swaps", "pattern_counts", (3, 4, 5)), ("sides", "side_by_side", (TURNS, SQUARE)), ("sides", "paired", (TURNS, SQUARE)),
        ("sides", "in_step", (TURNS, SQUARE)), ("couples", "suits", (one, other, 3)), ("couples", "couple_round", (one, other)),
        ("couples", "couple_rests", (one, other)), ("couples", "next_suiting", (one, other, 3)),
        ("couples", "suiting_between", (one, other, -7, 8)), ("starts", "alike_states", (one, other, 2)),
        ("starts", "start_round", (one, other, 0)), ("starts", "start_rests", (one, other, 0)),
        ("tellings", "is_possible", ([4, 9], [12])), ("tellings", "possible_lot", ([], [5, 8])),
        ("tellings", "is_possible_lot", ([12, 13], [3], (4,))), ("tellings", "possible_lots", ([13, 12], [3])),
        ("tellings", "sureness", ([13, 12], [3], 4)), ("tellings", "sureness", ([13, 12], [3], 25)),
        ("questions", "next_question", ([13, 12], [3])), ("questions", "learned", (lambda count: count % 6 < 2, 12)),
        ("sheets", "sheet", ("doubt", ([3, 4], 5))), ("sheets", "sheet_holds", (("doubt", ([3, 4], 5), 3),)),
        ("sheets", "wrong_sheets", ([("doubt", ([3, 4], 5), 3), None, ("doubt", ([3, 4], 5), 4)],)),
    ]


def of_machine(machine):
    """Questions about a machine with two or more commands: (module, function, arguments)."""
    last = machine.commands - 1
    part, change, whole = changes(machine), change_of(machine, (0, last)), orders(machine)
    states, rows = tuple(range(machine.states)), [[0], [last, 0]]
    fault = ((0,), (last,), 0)
    named = [
        ("machines", "checked_row", [0, last]), ("changes", "change_of", [0, last, 0]), ("changes", "changes"),
        ("changes", "row_for", change), ("changes", "orders"), ("changes", "middle"), ("changes", "never_matters"),
        ("texts", "machine_text"), ("batches", "is_batch_number", 4), ("batches", "batch_fault", 2),
        ("batches", "is_batch_fault", 2, fault), ("batches", "moduli"), ("papers", "court_paper"),
        ("papers", "is_court_paper", ((6,), ((2, (0,), (1,), 0), (3, (0,), (1,), 0)))), ("splitting", "powers", 2),
        ("splitting", "go_along", 2, 3), ("splitting", "split_change", whole + 1, change),
        ("splitting", "splits", whole, change), ("splitting", "shared", whole), ("scripts", "is_script", SCRIPT),
        ("scripts", "script_change", SCRIPT), ("scripts", "split_script", ((whole, (0, last)),), (0,), 1),
        ("scripts", "join_script", ((whole, (0,)), (whole, (last,))), (0,)), ("scripts", "is_loose", SCRIPT),
        ("scripts", "flat", ((whole, (0, (3, (last,)))),)), ("scripts", "flat_change", ((0, BIG), (last, -5))),
        ("parts", "is_part", part), ("parts", "part_of", [change]), ("parts", "part_middle", part),
        ("parts", "along", part, part), ("parts", "is_made_of", part, (part, part)), ("parts", "part_rounds", part),
        ("parts", "part_number", part), ("knotted", "division", part), ("knotted", "knots"), ("knotted", "is_knots", (part,)),
        ("pieces", "pieces"), ("pieces", "rest_piece"), ("pieces", "by_pieces", change), ("turned", "is_turned_number", 5),
        ("turned", "splits_into", (2, 0, 1), 6), ("turned", "split_fault", (1, 0), 1),
        ("turned", "is_split_fault", (1, 0), 1, (((0,), (last,)), 0)), ("along", "may_move", [2, 3, 4], (2, 0, 1)),
        ("along", "move_fault", [1, 1], (1, 0)), ("along", "is_move_fault", [1, 1], (1, 0), (((0,), (last,)), 0)),
        ("along", "least_along", 2), ("along", "least_together"), ("along", "rounds"), ("patterns", "row_of", (1, 0, 1), rows),
        ("mild", "is_mild"), ("mild", "mild_fault"), ("mild", "is_mild_fault", ((0,), (last,), (), 0)),
        ("mild", "crossing_number"), ("mild", "alike", (1, 0), (0, 1)), ("mild", "alike_fault", (1, 0), (0, 1)),
        ("mild", "is_alike_fault", (1, 0), (0, 1), (((0,), (last,)), 0)), ("rooms", "with_rows", rows),
        ("rooms", "is_room", states), ("rooms", "rooms"), ("rooms", "room_machine", states), ("views", "is_view", states),
        ("views", "view_machine", states), ("views", "view_with", [(0, 1)]), ("views", "is_telling", (states,)),
        ("views", "finest_view", [2, 3]), ("coupled", "couples_tell", (((0,), (last,)),)), ("coupled", "telling_couples"),
        ("sheets", "sheet", "paper", (machine,)), ("sheets", "sheet_holds", ("fault", (machine, 2), fault)),
        ("sheets", "sheet", "move", (machine, [1, 1], (1, 0))),
    ]
    return [(call[0], call[1], (() if call[0] == "sheets" else (machine,)) + call[2:]) for call in named]


def asked(call):
    """What a question is answered: ("told", value), or the name and `at` of its error."""
    module, name, arguments = call
    try:
        return "told", getattr(import_module("batchnumbers." + module), name)(*arguments)
    except BatchError as error:
        return error.__class__.__name__, error.at


def plain(value):
    """The value with each machine as its commands and steps, so that all of it can be compared to the letter."""
    if isinstance(value, Machine):
        return "machine", value.commands, value.states, value.steps
    if isinstance(value, (tuple, list)):
        return type(value)(plain(entry) for entry in value)
    return value


def emptied(value):
    """Takes everything out of all lists in the value."""
    if isinstance(value, list):
        for entry in value:
            emptied(entry)
        value.clear()
    elif isinstance(value, tuple):
        for entry in value:
            emptied(entry)


def is_of_tuples(value):
    """Whether what is told is made of integers, strings, machines and tuples of such."""
    if type(value) is tuple:
        return all(is_of_tuples(entry) for entry in value)
    return value is None or type(value) in (int, bool, str, Machine)


def all_calls():
    return alone() + [call for machine in MACHINES for call in of_machine(machine)]


def disturbed():
    """Something done on a bench and a desk, as may be done between any two questions."""
    bench, desk = Bench(SQUARE), Desk()
    bench.put(0, (4, (0, 1)))
    bench.within(lambda held: held.split((0,), 1))
    for command in [machine_text(TURNS), "loop 6 0 1", "split 0 1", "moduli"]:
        desk.say(command)
    return bench.effect(), desk.bench.script()


class WholeTest(unittest.TestCase):

    def test_each_function_is_asked_here(self):
        names = {(module, name) for module, name, _ in all_calls()}
        told = {(module, signature.partition("(")[0]) for module, signatures in INTERFACE.items() for signature in signatures
                if signature not in CLASSES}
        self.assertEqual(names, told)

    def test_each_function_answers_some_question(self):
        answered = {(module, name) for module, name, arguments in all_calls() if asked((module, name, arguments))[0] == "told"}
        self.assertEqual(answered, {(module, name) for module, name, _ in all_calls()})

    def test_arguments_stay_as_they_are(self):
        for call in all_calls():
            before = plain(call[2])
            asked(call)
            self.assertEqual(plain(call[2]), before, call[:2])

    def test_equal_questions_have_equal_answers(self):
        for call, again in zip(all_calls(), all_calls()):
            first = plain(asked(call))
            disturbed()
            self.assertEqual(plain(asked(call)), first, call[:2])
            self.assertEqual(plain(asked(again)), first, call[:2])
            copied = tuple(entry if callable(entry) else copy.deepcopy(entry) for entry in call[2])
            self.assertEqual(plain(asked(call[:2] + (copied,))), first, call[:2])

    def test_answers_can_be_kept(self):
        for call in all_calls():
            told = asked(call)
            before = plain(told)
            if call[1] != "sheet":
                self.assertTrue(is_of_tuples(told[1]), call[:2])
            emptied(call[2])
            self.assertEqual(plain(told), before, call[:2])

    def test_what_is_asked_by_whether(self):
        for call in all_calls():
            if call[1].startswith("is_") or call[1] in WHETHER:
                kind, told = asked(call)
                if kind == "told":
                    self.assertIs(type(told), bool, call[:2])

    def test_two_machines_asked_by_turns(self):
        for one, other in zip(MACHINES, MACHINES[1:] + MACHINES[:1]):
            first = [plain(asked(call)) for call in of_machine(one)]
            second = [plain(asked(call)) for call in of_machine(other)]
            # Machines that are equal, but were made anew, answer likewise.
            one, other = copy.deepcopy(one), copy.deepcopy(other)
            turns = [(plain(asked(call)), plain(asked(beside_it)))
                     for call, beside_it in zip(of_machine(one), of_machine(other))]
            self.assertEqual([told for told, _ in turns], first)
            self.assertEqual([told for _, told in turns], second)

    def test_machines_stay_as_they_are(self):
        steps = [[1, 0], [2, 2], [0, 1]]
        machine = Machine(2, steps)
        before = [plain(asked(call)) for call in of_machine(machine)]
        emptied(steps)
        self.assertEqual(machine, TURNS)
        self.assertEqual([plain(asked(call)) for call in of_machine(machine)], before)
        self.assertEqual((machine.commands, machine.states, machine.steps), (2, 3, ((1, 0), (2, 2), (0, 1))))

    def test_nothing_equals_a_value_of_another_kind(self):
        for thing in [TURNS, Bench(TURNS), Desk()]:
            for value in oddities() + [(), [], 0, TURNS.steps, (2, TURNS.steps)]:
                self.assertFalse(thing == value)
                self.assertTrue(thing != value)
        self.assertFalse(Bench(TURNS) == TURNS or TURNS == Bench(TURNS) or Desk() == Bench(TURNS))


class ReadmeTest(unittest.TestCase):

    def test_its_examples(self):
        path = os.path.join(os.path.dirname(os.path.dirname(batchnumbers.__file__)), "README.md")
        told = doctest.testfile(path, module_relative=False)
        self.assertEqual(told.failed, 0)
        self.assertGreater(told.attempted, 8)
