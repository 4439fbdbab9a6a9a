"""Point 27: shelvings and their machines."""

import unittest
from itertools import product

from batchnumbers.changes import change_of
from batchnumbers.machines import Machine
from batchnumbers.shelves import is_shelving, shelf_machine
from tests.helpers import BIG, error_of, oddities

SHELVINGS = [(1, (0,)), (1, (0, 0, 0)), (2, (0,)), (2, (1,)), (7, (3,)), (2, (0, 1)), (2, (1, 1)), (3, (1, 2)),
             (3, (0, 1, 2)), (4, (0, 1, 2, 3)), (2, (1, 1, 0)), (3, (0, 0, 1)), (5, (1, 4)), (6, (4, 5)), (4, (1, 3)),
             (2, (0, 1, 0, 1)), (2, (0, 1, 1, 0)), (6, (2, 2, 5)), (9, (3, 6)), (2, (0, 0, 0, 1))]
WIDE_SHELVING = (64, tuple(range(64)))
NO_SHELVINGS = oddities() + [0, (), (2,), (2, (0,), 0), [2, (0, 1)], (2, [0, 1]), (2, ()), (0, ()), (0, (0,)), (-1, (0,)),
                             (True, (0,)), (2.0, (0,)), ("2", (0,)), (None, (0,)), (2, None), (2, 0), (2, (2,)),
                             (2, (-1,)), (2, (0, True)), (2, (0, 1.0)), (2, (0, "1")), (2, (0, None)), (2, ((0,),)),
                             ((0, 1), 2), (1, (1,)), (2, "01"), (3, (0, 1, 3))]


class ExamplesTest(unittest.TestCase):

    def test_chapter_8(self):
        self.assertEqual(shelf_machine((2, (0, 1))).steps, ((2, 0), (3, 1), (0, 3), (1, 2)))


class ShelvingTest(unittest.TestCase):

    def test_shelvings(self):
        for value in SHELVINGS + [WIDE_SHELVING, (64, (63,)), (1, (0,) * 64), (BIG, (BIG - 1, 0)), (2, (1,) * 200)]:
            self.assertIs(is_shelving(value), True, value)
        self.assertIs(is_shelving(value=(2, (0, 1))), True)

    def test_what_is_none(self):
        for value in NO_SHELVINGS:
            self.assertIs(is_shelving(value), False, value)
            self.assertEqual(error_of(shelf_machine, value), ("InvalidQuestion", 0), value)


class ShelfMachineTest(unittest.TestCase):

    def test_each_step(self):
        for shelving in SHELVINGS + [(60, (7,)), (1, (0,) * 60), (10, (0, 3, 9, 1, 5, 7)), (4, tuple(range(4)) * 3)]:
            places, weights = shelving
            machine = shelf_machine(shelving)
            self.assertIs(type(machine), Machine)
            self.assertEqual((machine.commands, machine.states), (2, places * len(weights)))
            for shelf, weight in enumerate(weights):
                for place in range(places):
                    beside = 0 if shelf + 1 == len(weights) else shelf + 1
                    self.assertEqual(machine.steps[shelf * places + place],
                                     (beside * places + place, shelf * places + (place + weight) % places))

    def test_rows_lead_shelves_round_and_places_on(self):
        for shelving in SHELVINGS:
            places, weights = shelving
            machine = shelf_machine(shelving)
            for row in product(range(2), repeat=5):
                change = change_of(machine, row)
                for shelf in range(len(weights)):
                    to = (shelf + row.count(0)) % len(weights)
                    onward = change[shelf * places] - to * places
                    self.assertIn(onward, range(places))
                    for place in range(places):
                        self.assertEqual(change[shelf * places + place], to * places + (place + onward) % places)

    def test_argument_by_name(self):
        self.assertEqual(shelf_machine(shelving=(1, (0,))), Machine(2, [(0, 0)]))
