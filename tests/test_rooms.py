"""Point 39: rows as commands, rooms."""

import math
import unittest
from itertools import combinations

from batchnumbers.batches import is_batch_number, moduli
from batchnumbers.changes import change_of, changes
from batchnumbers.knotted import merged
from batchnumbers.machines import Machine
from batchnumbers.rooms import is_room, room_machine, rooms, with_rows
from tests.helpers import (EXACTLY_400, HUGE, KLEIN, LARGE, OVER_400, RING6, SHIFTED, SMALL, SQUARE, SQUARE_PAIR, STILL,
                           THREES_FIVES, TRIVIAL, TURNS, TURNS_FIVES, TWO, beside, error_of, oddities)

ROWS = [[()], [(0,)], [(0, 0), ()], [(), (0, 0, 0), (0,)]]


def is_closed(machine, states):
    """Whether no command leads out of the states."""
    return all(machine.steps[state][command] in states for state in states for command in range(machine.commands))


def plain_rooms(machine):
    """All rooms, by trying all lots of states."""
    return [some for many in range(1, machine.states + 1) for some in combinations(range(machine.states), many)
            if is_closed(machine, some)]


def divides_one(modulus, lot):
    return any(greater % modulus == 0 for greater in lot)


class ExamplesTest(unittest.TestCase):

    def test_chapter_11(self):
        square = Machine(2, [(1, 0), (2, 3), (3, 2), (0, 1)])
        self.assertEqual(moduli(with_rows(square, [(0, 0), (1,)])), ())


class WithRowsTest(unittest.TestCase):

    def test_the_commands_do_what_the_rows_do(self):
        for machine in SMALL + [HUGE, OVER_400]:
            last = machine.commands - 1
            for rows in ROWS + [[(last,), (0,)], [(0, last) * 3, [last, 0, last], ()], ([0], [last], (), [0, 0], (last,) * 7)]:
                told = with_rows(machine, rows)
                self.assertIs(type(told), Machine)
                self.assertEqual((told.commands, told.states), (len(rows), machine.states))
                for command, row in enumerate(rows):
                    self.assertEqual(change_of(told, (command,)), change_of(machine, row))
                self.assertEqual(with_rows(machine, rows), told)

    def test_known_ones(self):
        self.assertEqual(with_rows(machine=TURNS, rows=[[0, 1], ()]).steps, ((2, 0), (1, 1), (0, 2)))
        self.assertEqual(with_rows(TURNS, ((0,), (1,))), TURNS)
        self.assertEqual(with_rows(TRIVIAL, [(0, 0)]), TRIVIAL)
        long = (0, 1, 1, 0, 0) * 200
        self.assertEqual(change_of(with_rows(HUGE, [long] * 5), (4,)), change_of(HUGE, long))

    def test_batch_numbers_stay(self):
        for machine in SMALL + LARGE:
            lot = moduli(machine)
            last = machine.commands - 1
            for rows in ROWS + [[(0, 0), (last,)], [(0, last), (last, last)], [(0, last), (last, 0)]]:
                told = with_rows(machine, rows)
                self.assertTrue(set(changes(told)) <= set(changes(machine)))
                for count in range(-6, 14):
                    self.assertTrue(is_batch_number(told, count) or not is_batch_number(machine, count))
                for modulus in moduli(told):
                    self.assertTrue(divides_one(modulus, lot))

    def test_what_is_no_sequence_or_empty(self):
        for value in oddities() + [0, (), [], range(2)]:
            self.assertEqual(error_of(with_rows, TURNS, value), ("InvalidRow", 0), value)

    def test_the_first_entry_that_is_no_row(self):
        for value in oddities() + [0, 1, (2,), [0, -1], (True,), (0, False), (1.0,), ["0"], (None,), ((0,),), range(2)]:
            self.assertEqual(error_of(with_rows, TURNS, [value]), ("InvalidRow", 0), value)
            self.assertEqual(error_of(with_rows, TURNS, [(0,), value]), ("InvalidRow", 1), value)
            self.assertEqual(error_of(with_rows, TURNS, ((0, 1), [], (1,), value, value)), ("InvalidRow", 3), value)
        # It is the entry that counts, not where in it the wrong command stands.
        self.assertEqual(error_of(with_rows, TURNS, [(0,), (0, 1, 0, 2), (5,)]), ("InvalidRow", 1))
        self.assertEqual(error_of(with_rows, TRIVIAL, [(0,), (0,), (1,)]), ("InvalidRow", 2))

    def test_the_rows_stay_as_they_are(self):
        rows = [[0, 1], [1]]
        told = with_rows(TURNS, rows)
        rows[0].append(0)
        self.assertEqual((told, TURNS.steps), (with_rows(TURNS, [[0, 1], [1]]), ((1, 0), (2, 2), (0, 1))))
        self.assertEqual(rows, [[0, 1, 0], [1]])


class RoomTest(unittest.TestCase):

    def test_which_lots_of_states_are_rooms(self):
        for machine in SMALL:
            found = plain_rooms(machine)
            for many in range(1, machine.states + 1):
                for some in combinations(range(machine.states), many):
                    self.assertIs(is_room(machine, some), some in found)

    def test_values_that_are_none(self):
        self.assertIs(is_room(machine=TWO, value=(2, 3, 4)), True)
        for value in oddities() + [0, (), [], [0], [2, 3, 4], (0,), (0, 1, 2), (1, 0), (0, 0, 1), (0, 1, 1), (3, 2, 4),
                                   (2, 3, 4, 5), (-1, 0, 1), (False, True), (0, True), (0, 1.0), (0.0, 1), (0, "1"),
                                   (None,), ((0, 1),), (2, 3), (0, 1, None), range(5)]:
            self.assertIs(is_room(TWO, value), False, value)
        for value, told in [((0,), True), ((0, 1), True), ((2,), True), ([0], False), ((1, 0), False), ((0, 3), False)]:
            self.assertIs(is_room(STILL, value), told)

    def test_rooms_that_hold_no_other(self):
        for machine in SMALL + [HUGE, OVER_400]:
            told = rooms(machine)
            if machine.states < 10:
                found = plain_rooms(machine)
                least = [room for room in found if not any(set(other) < set(room) for other in found)]
                self.assertEqual(told, tuple(sorted(least)))
            self.assertEqual(type(told), tuple)
            self.assertEqual({type(room) for room in told}, {tuple})
            # Each state stands in just one of them.
            self.assertEqual(sorted(state for room in told for state in room), list(range(machine.states)))

    def test_known_rooms(self):
        for machine, told in [(TRIVIAL, ((0,),)), (STILL, ((0,), (1,), (2,))), (TURNS, ((0, 1, 2),)),
                              (TWO, ((0, 1), (2, 3, 4))), (HUGE, (tuple(range(16)),)), (SHIFTED, ((0,), (1, 3, 5), (2,), (4,))),
                              (KLEIN, ((0, 1), (2, 3)))]:
            self.assertEqual(rooms(machine), told)
        self.assertEqual(rooms(machine=RING6), ((0, 1), (2, 3, 4)))


class RoomMachineTest(unittest.TestCase):

    def test_states_are_numbered_anew(self):
        for machine in SMALL:
            for room in plain_rooms(machine):
                told = room_machine(machine, room)
                self.assertEqual((told.commands, told.states), (machine.commands, len(room)))
                for at, state in enumerate(room):
                    for command in range(machine.commands):
                        self.assertEqual(room[told.steps[at][command]], machine.steps[state][command])
        self.assertEqual(room_machine(machine=TWO, room=(2, 3, 4)).steps, ((0, 1), (1, 2), (2, 0)))
        self.assertEqual(room_machine(SHIFTED, (1, 3, 5)).steps, ((1, 0), (2, 2), (0, 1)))
        self.assertEqual(room_machine(SQUARE, (0, 1, 2, 3)), SQUARE)
        self.assertEqual(room_machine(TRIVIAL, (0,)), TRIVIAL)

    def test_batch_numbers_stay(self):
        for machine in SMALL + LARGE:
            lot = moduli(machine)
            for room in rooms(machine):
                told = room_machine(machine, room)
                for count in range(-6, 14):
                    self.assertTrue(is_batch_number(told, count) or not is_batch_number(machine, count))
                for modulus in moduli(told):
                    self.assertTrue(divides_one(modulus, lot))

    def test_the_moduli_are_merged_from_those_of_the_rooms(self):
        for machine in SMALL + LARGE + [EXACTLY_400, TURNS_FIVES, THREES_FIVES, beside(SHIFTED, SQUARE_PAIR)]:
            numbers = [modulus for room in rooms(machine) for modulus in moduli(room_machine(machine, room))]
            self.assertEqual(merged(numbers), moduli(machine))
            self.assertEqual(math.prod(moduli(machine)), math.lcm(1, *numbers))

    def test_what_is_no_room(self):
        for value in oddities() + [0, (), [0, 1], (0,), (1, 0), (0, 1, 2), (0, True), (0, 1.0), (5,), (2, 3)]:
            self.assertEqual(error_of(room_machine, TWO, value), ("InvalidQuestion", 1), value)
