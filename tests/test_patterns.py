"""Point 35: patterns of rows."""

import unittest
from itertools import product

from batchnumbers.changes import change_of
from batchnumbers.machines import Machine
from batchnumbers.patterns import crossings, row_of, tally
from tests.helpers import SQUARE, TURNS, error_of, oddities

NO_PATTERNS = oddities() + [0, [], [0], [1, 0], (8,), (-1,), (0, 8), (0, -1), (True,), (0, False), (1.0,), (0, "1"), ("01",),
                            (None,), ((0,),), (0, (1,)), (0, [1]), range(2), (10 ** 30,)]
LONG = tuple((at * at + at // 7) % 8 for at in range(300))
PATTERNS = [(), (0,), (7,), (5, 5, 5), (0, 1), (1, 0), (1, 0, 1, 0), (0, 1, 0, 1), (7, 0, 7, 3, 0), (2, 1, 0, 2, 1, 0),
            (7, 6, 5, 4, 3, 2, 1, 0), (0, 1, 2, 3, 4, 5, 6, 7), (3,) * 150 + (1,) * 150, (1,) * 150 + (3,) * 150, LONG]


def plain_tally(pattern):
    return tuple((letter, list(pattern).count(letter)) for letter in sorted(set(pattern)))


def plain_crossings(pattern):
    """The crossings, by looking at all pairs of places."""
    found = {}
    for at, high in enumerate(pattern):
        for low in pattern[at + 1:]:
            if low < high:
                found[low, high] = found.get((low, high), 0) + 1
    return tuple((low, high, found[low, high]) for low, high in sorted(found))


class ExamplesTest(unittest.TestCase):

    def test_chapter_10(self):
        self.assertEqual(crossings((1, 0, 1, 0)), ((0, 1, 3),))


class TallyTest(unittest.TestCase):

    def test_by_counting(self):
        for pattern in PATTERNS + list(product(range(3), repeat=4)):
            told = tally(pattern)
            self.assertEqual(told, plain_tally(pattern))
            self.assertEqual([type(entry) for entry in told], [tuple] * len(told))
        self.assertEqual((tally(pattern=(7, 0, 7, 3, 0)), tally(())), (((0, 2), (3, 1), (7, 2)), ()))

    def test_no_pattern(self):
        for value in NO_PATTERNS:
            self.assertEqual(error_of(tally, value), ("InvalidQuestion", 0), value)
            self.assertEqual(error_of(crossings, value), ("InvalidQuestion", 0), value)


class CrossingsTest(unittest.TestCase):

    def test_by_all_pairs_of_places(self):
        for pattern in PATTERNS + list(product(range(3), repeat=5)) + list(product((1, 4, 7), repeat=4)):
            told = crossings(pattern)
            self.assertEqual(told, plain_crossings(pattern))
            self.assertEqual([type(entry) for entry in told], [tuple] * len(told))
        self.assertEqual((crossings(pattern=(3,) * 150 + (1,) * 150), crossings(())), (((1, 3, 22500),), ()))

    def test_rounds_of_two_letters(self):
        for low, high in [(0, 1), (0, 7), (3, 5)]:
            for many in range(20):
                rounds = (low, high) * many
                told = many * (many - 1) // 2
                self.assertEqual(crossings(rounds), ((low, high, told),) if told else ())
                turned = tuple(letter for at in range(many) for letter in ((low, high) if at % 2 == 0 else (high, low)))
                told = many * many // 2
                self.assertEqual(crossings(turned), ((low, high, told),) if told else ())
                self.assertEqual(crossings((low,) * many + (high,) * many), ())


class RowOfTest(unittest.TestCase):

    def test_rows_stand_for_letters(self):
        self.assertEqual(row_of(TURNS, (1, 0, 1), [(0,), [1, 1]]), (1, 1, 0, 1, 1))
        self.assertEqual(row_of(TURNS, (), []), ())
        self.assertEqual(row_of(TURNS, (), ((0,), [1])), ())
        self.assertEqual(row_of(TURNS, (2, 0), ((0,), (), (1, 0), (0, 0, 0))), (1, 0, 0))
        self.assertEqual(row_of(machine=SQUARE, pattern=(7,), rows=[()] * 7 + [[0, 1]]), (0, 1))
        self.assertIs(type(row_of(TURNS, (0,), [[1]])), tuple)

    def test_by_its_parts(self):
        rows = [(0, 1), (1,), [], [1, 1, 0], (0,), (0, 0), [1, 0], (1, 1)]
        for pattern in PATTERNS:
            whole = []
            for letter in pattern:
                whole.extend(rows[letter])
            self.assertEqual(row_of(TURNS, pattern, rows), tuple(whole))
            self.assertEqual(change_of(TURNS, row_of(TURNS, pattern, rows)), change_of(TURNS, whole))

    def test_long_ones(self):
        told = row_of(TURNS, LONG, [(0, 1) * 500] * 8)
        self.assertEqual(told, (0, 1) * 150000)

    def test_no_pattern_ahead_of_all_else(self):
        for value in NO_PATTERNS:
            for rows in [[(0,)] * 8, None, [None]]:
                self.assertEqual(error_of(row_of, TURNS, value, rows), ("InvalidQuestion", 1), value)

    def test_rows_that_are_no_sequence_or_too_short(self):
        for value in oddities() + [0, range(3)]:
            self.assertEqual(error_of(row_of, TURNS, (0,), value), ("InvalidQuestion", 2), value)
            self.assertEqual(error_of(row_of, TURNS, (), value), ("InvalidQuestion", 2), value)
        for pattern, rows in [((0,), []), ((1,), [(0,)]), ((0, 2), ((0,), (1,))), ((7,), [()] * 7), ((1,), [None]),
                              ((3, 0), [(9,)])]:
            self.assertEqual(error_of(row_of, TURNS, pattern, rows), ("InvalidQuestion", 2))

    def test_the_first_entry_that_is_no_row(self):
        for rows, at in [([(0, 1, 2)], 2), ([(0,), (1, 0, -1)], 2), ([(0, 5), None], 1), ([None, (0, 5)], 0),
                         ([(0,), 0], 0), ([(0,), (True,)], 0), ([(0,), (1, 1.0)], 1), ([(0,), (1, "0")], 1),
                         ([(0,), [1, 0, 1, None]], 3), ([(0,), (), (0, 2)], 1)]:
            for pattern in [(0,), (0, 0), ()]:
                self.assertEqual(error_of(row_of, TURNS, pattern, rows), ("InvalidRow", at), rows)
        one = Machine(1, [(0,)])
        self.assertEqual(error_of(row_of, one, (1,), [(0, 0), (0, 0, 1)]), ("InvalidRow", 2))
