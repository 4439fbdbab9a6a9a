"""The interface: names, arguments, in which file each is defined, and that the files keep to their limits."""

import ast
import inspect
import os
import unittest
from importlib import import_module

import batchnumbers

FOLDER = os.path.dirname(batchnumbers.__file__)
ERRORS = ["BatchError", "InvalidMachine", "InvalidRow", "InvalidChange", "InvalidQuestion", "InvalidText", "Refused",
          "InvalidCommand"]
INTERFACE = {
    "machines": ["Machine(commands, steps)", "checked_row(machine, value)"],
    "changes": ["checked_change(states, value)", "followed(one, other)", "back(change)", "power(change, count)",
                "order(change)", "change_of(machine, row)", "changes(machine)", "row_for(machine, change)",
                "orders(machine)", "change_places(one, other)", "middle(machine)", "never_matters(machine)",
                "loop(one, other, count)", "split_loop(one, other, count)"],
    "texts": ["machine_text(machine)", "read_machine(text)"],
    "batches": ["is_batch_number(machine, count)", "batch_fault(machine, count)",
                "is_batch_fault(machine, count, value)", "moduli(machine)"],
    "papers": ["court_paper(machine)", "is_court_paper(machine, value)"],
    "splitting": ["powers(machine, count)", "go_along(machine, one, other)", "split_change(machine, count, change)",
                  "splits(machine, count, change)", "shared(machine, count)"],
    "scripts": ["is_script(machine, value)", "script_change(machine, script)",
                "split_script(machine, script, path, at)", "join_script(machine, script, path)",
                "is_loose(machine, script)", "flat(machine, script)", "flat_change(machine, value)"],
    "parts": ["is_part(machine, value)", "part_of(machine, value)", "part_middle(machine, part)",
              "along(machine, one, other)", "is_made_of(machine, part, value)", "part_rounds(machine, part)",
              "part_number(machine, part)"],
    "knotted": ["division(machine, part)", "knots(machine)", "is_knots(machine, value)", "merged(numbers)"],
    "rests": ["is_lot(value)", "fits(lot, count)", "residues(lot)", "next_fitting(lot, count)",
              "fitting_between(lot, low, high)"],
    "pieces": ["pieces(machine)", "rest_piece(machine)", "by_pieces(machine, change)"],
    "following": ["lot_of(counts)", "follows(counts, count)", "doubt(counts, count)", "is_doubt(counts, count, value)"],
    "forcing": ["forces(counts)", "least_forcing(counts)", "is_least_forcing(counts, value)"],
    "lots": ["is_coarser(one, other)", "common_lot(one, other)", "telling_counts(lot)"],
    "shelves": ["is_shelving(value)", "shelf_machine(shelving)"],
    "walks": ["walk_sum(shelving, shelf, jump, count)", "jump_fault(shelving, count)",
              "is_jump_fault(shelving, count, value)"],
    "folding": ["shelf_moduli(shelving)", "folded(one, other)", "shelving_for(lot)", "against(counts, count)"],
    "turned": ["is_turned_number(machine, count)", "splits_into(machine, arrangement, count)",
               "split_fault(machine, arrangement, count)", "is_split_fault(machine, arrangement, count, value)"],
    "along": ["may_move(machine, counts, arrangement)", "move_fault(machine, counts, arrangement)",
              "is_move_fault(machine, counts, arrangement, value)", "least_along(machine, count)",
              "least_together(machine)", "rounds(machine)"],
    "patterns": ["tally(pattern)", "crossings(pattern)", "row_of(machine, pattern, rows)"],
    "mild": ["gap(one, other)", "is_mild(machine)", "mild_fault(machine)", "is_mild_fault(machine, value)",
             "crossing_number(machine)", "alike(machine, one, other)", "alike_fault(machine, one, other)",
             "is_alike_fault(machine, one, other, value)", "batch_moduli(number)"],
    "swaps": ["harmless_swaps(pattern, number)", "pattern_counts(zeros, ones, number)"],
    "rooms": ["with_rows(machine, rows)", "is_room(machine, value)", "rooms(machine)", "room_machine(machine, room)"],
    "views": ["is_view(machine, value)", "view_machine(machine, view)", "view_with(machine, pairs)",
              "is_telling(machine, value)", "finest_view(machine, counts)"],
    "sides": ["side_by_side(one, other)", "paired(one, other)", "in_step(one, other)"],
    "couples": ["suits(one, other, count)", "couple_round(one, other)", "couple_rests(one, other)",
                "next_suiting(one, other, count)", "suiting_between(one, other, low, high)"],
    "starts": ["alike_states(one, other, count)", "start_round(one, other, state)", "start_rests(one, other, state)"],
    "coupled": ["couples_tell(machine, value)", "telling_couples(machine)"],
    "tellings": ["is_possible(yes, no)", "possible_lot(yes, no)", "is_possible_lot(yes, no, value)",
                 "possible_lots(yes, no)", "sureness(yes, no, count)"],
    "questions": ["next_question(yes, no)", "learned(ask, bound)"],
    "bench": ["Bench(machine)"],
    "sheets": ["sheet_holds(value)", "sheet(name, question)", "wrong_sheets(values)"],
    "desk": ["Desk()"],
}
METHODS = {
    ("bench", "Bench"): ["__len__(self)", "script(self)", "effect(self)", "loose(self)", "flat(self)", "put(self, at, item)",
                         "take(self, at)", "split(self, path, at)", "join(self, path)", "undo(self)", "within(self, work)"],
    ("desk", "Desk"): ["say(self, command)"],
}


def files():
    return sorted(name for name in os.listdir(FOLDER) if name != "__pycache__")


def text_of(name):
    with open(os.path.join(FOLDER, name), encoding="ascii", newline="") as file:
        return file.read()


class InterfaceTest(unittest.TestCase):

    def test_each_name_is_defined_in_its_file_with_its_arguments(self):
        for name, signatures in INTERFACE.items():
            module = import_module("batchnumbers." + name)
            for signature in signatures:
                told = getattr(module, signature.partition("(")[0])
                self.assertEqual(told.__name__ + str(inspect.signature(told)), signature)
                self.assertEqual(told.__module__, module.__name__)

    def test_each_method_is_defined_in_its_class_itself(self):
        for (name, owner), signatures in METHODS.items():
            told = getattr(import_module("batchnumbers." + name), owner)
            for signature in signatures:
                method = vars(told)[signature.partition("(")[0]]
                self.assertEqual(method.__name__ + str(inspect.signature(method)), signature)

    def test_the_errors(self):
        module = import_module("batchnumbers.errors")
        for name in ERRORS:
            self.assertEqual(getattr(module, name).__module__, "batchnumbers.errors")

    def test_the_limits_of_files_lines_and_functions(self):
        for name in files():
            text = text_of(name)
            self.assertTrue(name.endswith(".py"), name)
            self.assertLessEqual(len(text.split("\n")), 399, name)
            for line in text.split("\n"):
                self.assertLessEqual(len(line), 120, name)
                self.assertTrue(all(" " <= sign <= "~" for sign in line), name)
            for node in ast.walk(ast.parse(text)):
                if isinstance(node, ast.FunctionDef):
                    self.assertLessEqual(node.end_lineno - node.lineno + 1, 40, name + " " + node.name)

    def test_imports_are_of_the_package_and_of_math(self):
        for name in files():
            for node in ast.walk(ast.parse(text_of(name))):
                self.assertNotIsInstance(node, ast.Import)
                if isinstance(node, ast.ImportFrom):
                    self.assertTrue(node.module == "math" or node.module.startswith("batchnumbers."), name)
                    self.assertEqual(node.level, 0)
