"""Points 53 and 54: sheets, which are evidence of several kinds."""

import unittest

from batchnumbers.along import is_move_fault, move_fault
from batchnumbers.batches import batch_fault, is_batch_fault
from batchnumbers.bench import Bench
from batchnumbers.following import doubt, is_doubt
from batchnumbers.knotted import is_knots, knots
from batchnumbers.machines import Machine
from batchnumbers.papers import court_paper, is_court_paper
from batchnumbers.sheets import sheet, sheet_holds, wrong_sheets
from batchnumbers.turned import is_split_fault, split_fault
from tests.helpers import (EVEN5, FIVES, HUGE, KLEIN, OVER_400, PAIR, QUATERNION, SMALL, SQUARE, TRIVIAL, TURNS, TWO, error_of,
                           oddities)

MAKERS = {"paper": court_paper, "fault": batch_fault, "knots": knots, "split": split_fault, "move": move_fault,
          "doubt": doubt}
CHECKERS = {"paper": is_court_paper, "fault": is_batch_fault, "knots": is_knots, "split": is_split_fault,
            "move": is_move_fault, "doubt": is_doubt}
FAULT = ((0,), (1,), 0)
# Questions for which there is a value.
GOOD = {
    "paper": [(TURNS,), (SQUARE,), (TRIVIAL,), (KLEIN,)],
    "fault": [(TURNS, 2), (TURNS, -1), (SQUARE, 3), (SQUARE, 4 * 10 ** 29 + 2)],
    "knots": [(TURNS,), (SQUARE,), (TWO,), (TRIVIAL,)],
    "split": [(TURNS, (0, 1), 2), (TURNS, (1, 0), 1), (SQUARE, (2, 0, 1), 5)],
    "move": [(TURNS, (2, 3), (1, 0)), (TURNS, [2, 3, 4], (2, 0, 1)), (SQUARE, [1, 1], (1, 0))],
    "doubt": [((3, 4), 5), ([3, 4], 5), ((), 7), ([0], -1)],
}
# Questions for which there is none.
NONE = {
    "fault": [(TURNS, 6), (TURNS, 0), (KLEIN, 2), (TRIVIAL, -5)],
    "split": [(TURNS, (0,), 2), (TURNS, (1, 0), 5), (KLEIN, (2, 1, 0), 3)],
    "move": [(TURNS, [2, 3], (0, 1)), (TURNS, (6, 5), (1, 0)), (KLEIN, (1, 1), (1, 0))],
    "doubt": [((2,), 5), ([3, 4], 12), ((), 1), ([], 0)],
}
# Questions of the right kind from which the functions raise an error.
REFUSED = [
    ("paper", (OVER_400,), ("Refused", 0)), ("fault", (HUGE, 2), ("Refused", 0)), ("knots", (OVER_400,), ("Refused", 0)),
    ("split", (OVER_400, None, 2), ("Refused", 0)), ("split", (TURNS, [1, 0], 2), ("InvalidQuestion", 1)),
    ("split", (TURNS, (0, 2), 2), ("InvalidQuestion", 1)), ("split", (TURNS, None, 2), ("InvalidQuestion", 1)),
    ("move", (TURNS, None, (1, 0)), ("InvalidQuestion", 1)), ("move", (TURNS, [True], (0,)), ("InvalidQuestion", 1)),
    ("move", (TURNS, [2, 3], [1, 0]), ("InvalidQuestion", 2)), ("move", (TURNS, [2, 3, 4], (1, 0)), ("InvalidQuestion", 2)),
    ("move", (HUGE, None, None), ("Refused", 0)), ("doubt", (None, 5), ("InvalidQuestion", 0)),
    ("doubt", ([[3], 4], 5), ("InvalidQuestion", 0)), ("doubt", (3, 5), ("InvalidQuestion", 0)),
]
# What is no question for a kind of sheet.
WRONG = {
    "paper": [(), (TURNS, 2), [TURNS], TURNS, (None,), (TURNS.steps,), (Bench(TURNS),)],
    "fault": [(TURNS,), (2, TURNS), (TURNS, 2, 3), [TURNS, 2], (TURNS, True), (TURNS, 2.0), (TURNS, None), (None, 2),
              (TURNS, "2"), (TURNS, [2])],
    "knots": [(), (TURNS, 2), [TURNS], TURNS, (2,), ((TURNS,),)],
    "split": [(TURNS, (1, 0)), (TURNS, 2, (1, 0)), [TURNS, (1, 0), 2], (TURNS, (1, 0), True), (None, (1, 0), 2),
              (TURNS, (1, 0), 2, 2), (TURNS, (1, 0), None)],
    "move": [(TURNS, (2, 3)), ((2, 3), TURNS, (1, 0)), [TURNS, (2, 3), (1, 0)], (None, (2, 3), (1, 0)),
             (TURNS, (2, 3), (1, 0), 0), TURNS],
    "doubt": [((3, 4),), (5, (3, 4)), [(3, 4), 5], ((3, 4), True), ((3, 4), 5.0), ((3, 4), None), ((3, 4), 5, 3), (TURNS, (3, 4), 5)],
}


def cases(table):
    return [(kind, question) for kind, questions in table.items() for question in questions]


class SheetTest(unittest.TestCase):

    def test_one_of_each_kind_that_holds(self):
        for kind, question in cases(GOOD):
            told = sheet(kind, question)
            self.assertEqual((type(told), len(told), told[:2]), (tuple, 3, (kind, question)))
            self.assertIs(type(told[1]), tuple)
            self.assertIs(CHECKERS[kind](*question, told[2]), True)
            self.assertIs(sheet_holds(told), True)
            self.assertEqual(told[2], MAKERS[kind](*question))
            self.assertEqual(sheet(kind, question), told)
        self.assertEqual(sheet(name="doubt", question=([3, 4], 5)), ("doubt", ([3, 4], 5), 3))

    def test_all_small_machines(self):
        for machine in SMALL:
            for kind in ["paper", "knots"]:
                self.assertIs(sheet_holds(sheet(kind, (machine,))), True)
            for count in range(-3, 8):
                if batch_fault(machine, count) is None:
                    self.assertEqual(error_of(sheet, "fault", (machine, count)), ("Refused", 2))
                else:
                    self.assertIs(sheet_holds(sheet("fault", (machine, count))), True)

    def test_its_lists_are_copied(self):
        counts = [2, 3, 4]
        question = (TURNS, counts, (2, 0, 1))
        told = sheet("move", question)
        self.assertIsNot(told[1][1], counts)
        counts.append(0)
        self.assertEqual(told[1], (TURNS, [2, 3, 4], (2, 0, 1)))
        self.assertIs(sheet_holds(told), True)
        counts = [3, 4]
        first, second = sheet("doubt", (counts, 5)), sheet("doubt", (counts, 5))
        first[1][0].clear()
        self.assertEqual((second[1], counts), (([3, 4], 5), [3, 4]))
        # Tuples stay tuples.
        self.assertEqual(sheet("doubt", ((3, 4), 5))[1], ((3, 4), 5))

    def test_what_is_no_name(self):
        for value in oddities() + [0, (), "papers", "Paper", "paper ", "machine", ("paper",), ["paper"], b"paper"]:
            for question in [(TURNS,), None, (TURNS, 2)]:
                self.assertEqual(error_of(sheet, value, question), ("Refused", 0), value)

    def test_what_is_no_question(self):
        for kind in MAKERS:
            for question in oddities() + [0, (), []] + WRONG[kind]:
                self.assertEqual(error_of(sheet, kind, question), ("Refused", 1), (kind, question))

    def test_the_errors_of_the_functions(self):
        for kind, question, told in REFUSED:
            self.assertEqual(error_of(sheet, kind, question), told)
            self.assertEqual(error_of(MAKERS[kind], *question), told)

    def test_where_none_is_told(self):
        for kind, question in cases(NONE):
            self.assertIsNone(MAKERS[kind](*question))
            self.assertEqual(error_of(sheet, kind, question), ("Refused", 2))


class HoldsTest(unittest.TestCase):

    def test_exactly_if_the_check_is_true(self):
        values = [MAKERS[kind](*question) for kind, question in cases(GOOD)] + [None, 0, 3, 4, (), FAULT]
        for kind, question in cases(GOOD) + cases(NONE):
            for value in values:
                self.assertIs(sheet_holds((kind, question, value)), CHECKERS[kind](*question, value))
        self.assertIs(sheet_holds(value=("fault", (TURNS, 2), FAULT)), True)
        self.assertIs(sheet_holds(("fault", (TURNS, 7), FAULT)), False)
        self.assertIs(sheet_holds(("doubt", ([3, 4], 5), 3)), True)
        self.assertIs(sheet_holds(("doubt", ([3, 4], 6), 3)), False)

    def test_the_kind_matters(self):
        for kind, question in cases(GOOD):
            told = sheet(kind, question)
            for other in ["paper", "fault", "knots", "split", "move", "doubt", "", "papers", None, 0, (kind,), [kind]]:
                if other != kind:
                    self.assertIs(sheet_holds((other,) + told[1:]), False)

    def test_what_is_no_question(self):
        for kind, question in cases(GOOD):
            value = MAKERS[kind](*question)
            for wrong in oddities() + [0, (), list(question)] + WRONG[kind]:
                self.assertIs(sheet_holds((kind, wrong, value)), False, (kind, wrong))

    def test_where_an_error_is_raised(self):
        for kind, question, _ in REFUSED:
            # A fault is checked without asking how many changes there are.
            if kind != "fault":
                for value in [None, FAULT, 3, ((), ())]:
                    self.assertEqual(error_of(CHECKERS[kind], *question, value), error_of(MAKERS[kind], *question))
                    self.assertIs(sheet_holds((kind, question, value)), False, (kind, question))
        self.assertIs(sheet_holds(("fault", (HUGE, 2), FAULT)), True)

    def test_lists_in_the_place_of_tuples(self):
        for kind, question in cases(GOOD):
            told = sheet(kind, question)
            self.assertIs(sheet_holds(list(told)), False)
            if isinstance(told[2], tuple):
                self.assertIs(sheet_holds(told[:2] + (list(told[2]),)), False)
        self.assertIs(sheet_holds(("move", (TURNS, (2, 3), (1, 0)), ([(0,), (1,)], 0))), False)
        self.assertIs(sheet_holds(("fault", (TURNS, 2), ((0,), [1], 0))), False)

    def test_other_values(self):
        good = ("fault", (TURNS, 2), FAULT)
        for value in oddities() + [0, (), good[:2], good + (0,), (good,), [good], (good[1], good[0], good[2]), TURNS, "fault"]:
            self.assertIs(sheet_holds(value), False, value)
        for value in oddities() + [0, (), FAULT[:2], FAULT + (0,), ((0,), (2,), 0), ((0,), (1,), 3), ((0,), (1,), True)]:
            self.assertIs(sheet_holds(good[:2] + (value,)), False, value)
        for kind, question in cases(GOOD):
            for value in oddities() + [(), ((),), (None, None), 0, -1]:
                self.assertIs(sheet_holds((kind, question, value)), False, (kind, value))


class WrongSheetsTest(unittest.TestCase):

    def test_the_indexes_of_those_that_do_not_hold(self):
        good = [sheet(kind, question) for kind, question in cases(GOOD)]
        self.assertEqual(wrong_sheets(good), ())
        mixed = [good[0], None, good[1], good[2][:2], good[3], good[4], list(good[5]), ("fault", (TURNS, 6), FAULT)]
        self.assertEqual(wrong_sheets(mixed), (1, 3, 6, 7))
        self.assertEqual(wrong_sheets(tuple(mixed)), (1, 3, 6, 7))
        self.assertEqual(wrong_sheets(values=[]), ())
        self.assertEqual(wrong_sheets(()), ())
        self.assertEqual(wrong_sheets(good[0]), (0, 1, 2))
        self.assertEqual(wrong_sheets([("knots", (EVEN5,), (PAIR,)), ("paper", (FIVES,), ()), ("knots", (QUATERNION,), ())]),
                         (0, 1, 2))

    def test_what_is_no_sequence(self):
        for value in oddities() + [0, range(2), Machine, TURNS]:
            self.assertEqual(error_of(wrong_sheets, value), ("InvalidQuestion", 0), value)
