"""Point 9: texts."""

import unittest

from batchnumbers.machines import Machine
from batchnumbers.texts import machine_text, read_machine
from tests.helpers import (EXACTLY_400, HUGE, LARGE, OVER_400, SMALL, SQUARE, TRIVIAL, TURNS, error_of, oddities,
                           of_changes, of_cycles)


def bad(at):
    return "InvalidText", at


class TextTest(unittest.TestCase):

    def test_texts(self):
        self.assertEqual(machine_text(TRIVIAL), "machine 1 1\n0")
        self.assertEqual(machine_text(TURNS), "machine 2 3\n1 0\n2 2\n0 1")
        self.assertEqual(machine_text(machine=SQUARE), "machine 2 4\n1 0\n2 3\n3 2\n0 1")

    def test_there_and_back(self):
        for machine in SMALL + LARGE + [EXACTLY_400, OVER_400, HUGE]:
            text = machine_text(machine)
            self.assertEqual(read_machine(text), machine)
            self.assertEqual(machine_text(read_machine(text=text)), text)

    def test_two_figures(self):
        machine = of_changes(of_cycles(12, tuple(range(12))))
        self.assertEqual(machine_text(machine).split("\n")[9:], ["9", "10", "11", "0"])
        self.assertEqual(read_machine("machine 12 1\n" + " ".join(["0"] * 12)), Machine(12, [(0,) * 12]))

    def test_no_string(self):
        for value in oddities() + [b"machine 1 1\n0", ["machine 1 1", "0"], 7]:
            self.assertEqual(error_of(read_machine, value), bad(0), value)

    def test_the_first_line(self):
        for head in ["", "machine", "machine 1", "machine 1 1 1", "machine 1 1 ", " machine 1 1", "machine  1 1",
                     "machine 1  1", "Machine 1 1", "machine 01 1", "machine 1 01", "machine 0 1", "machine 1 0",
                     "machine -1 1", "machine +1 1", "machine 100 1", "machine 1 100", "machine 1_0 1", "machine 1 1\r",
                     "machine 1 x", "machine 1\t1", "machine\t1 1", "machine \u0661 1", "machine \u00b2 1", "1 1"]:
            self.assertEqual(error_of(read_machine, head + "\n0"), bad(0), head)
            self.assertEqual(error_of(read_machine, head), bad(0), head)

    def test_a_further_line(self):
        for line in ["", "0", "0 1 0", "0  1", " 0 1", "0 1 ", "0 2", "0 -1", "00 1", "0 01", "0 +1", "x 0", "0 \u0661",
                     "0\t1", "0 1\r", "0 \u00b9", "0 1.", "0 100"]:
            self.assertEqual(error_of(read_machine, "machine 2 2\n" + line + "\n1 0"), bad(1), line)
            self.assertEqual(error_of(read_machine, "machine 2 2\n0 0\n" + line), bad(2), line)
            self.assertEqual(error_of(read_machine, "machine 2 2\n" + line + "\n" + line), bad(1), line)

    def test_a_line_is_missing(self):
        self.assertEqual(error_of(read_machine, "machine 2 2"), bad(1))
        self.assertEqual(error_of(read_machine, "machine 2 2\n0 1"), bad(2))
        self.assertEqual(error_of(read_machine, "machine 1 99\n0\n1\n2"), bad(4))

    def test_a_line_too_many(self):
        self.assertEqual(error_of(read_machine, "machine 1 1\n0\n"), bad(2))
        self.assertEqual(error_of(read_machine, "machine 1 1\n0\n0"), bad(2))
        self.assertEqual(error_of(read_machine, "machine 2 3\n1 0\n2 2\n0 1\n\n"), bad(4))
        self.assertEqual(error_of(read_machine, "\nmachine 1 1\n0"), bad(0))

    def test_a_command_leads_two_states_to_the_same_one(self):
        self.assertEqual(error_of(read_machine, "machine 1 2\n0\n0"), bad(3))
        self.assertEqual(error_of(read_machine, "machine 2 3\n1 0\n2 0\n0 1"), bad(4))

    def test_two_things_wrong(self):
        self.assertEqual(error_of(read_machine, "machine 0 2\nx"), bad(0))
        self.assertEqual(error_of(read_machine, "machine 2 3\nx"), bad(1))
        self.assertEqual(error_of(read_machine, "machine 1 3\n0\n0"), bad(3))
        self.assertEqual(error_of(read_machine, "machine 1 2\n0\n0\n"), bad(3))
        self.assertEqual(error_of(read_machine, "machine 1 2\n0\n2\n"), bad(2))
