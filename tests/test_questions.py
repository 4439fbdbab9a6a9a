"""Point 50: questions by which the moduli are learned."""

import math
import unittest

from batchnumbers.batches import is_batch_number, moduli
from batchnumbers.changes import orders
from batchnumbers.following import lot_of
from batchnumbers.questions import learned, next_question
from batchnumbers.rests import fits
from batchnumbers.tellings import possible_lots
from tests.helpers import EXACTLY_400, LARGE, SMALL, error_of
from tests.test_following import NO_COUNTS
from tests.test_tellings import MANY, PLAIN, all_tellings


def greater_number(lots, count):
    """The greater of how many of the lots the count fits and how many it does not."""
    fitting = sum(1 for lot in lots if fits(lot, count))
    return max(fitting, len(lots) - fitting)


def plain_question(lots, whole):
    """The first number for which this is least, by looking at all below the product and at some more."""
    return min(range(whole + 3), key=lambda count: (greater_number(lots, count), count))


def plain_learned(lot, bound):
    """What is asked and answered for this lot, question by question."""
    yes, no, asked = [bound, bound + 1], [], []
    while True:
        count = next_question(yes, no)
        if count is None:
            return possible_lots(yes, no)[0], tuple(asked)
        answer = fits(lot, count)
        asked.append((count, answer))
        (yes if answer else no).append(count)


class ExamplesTest(unittest.TestCase):

    def test_chapter_13(self):
        self.assertEqual(next_question((13, 12), (3,)), 4)
        self.assertEqual(learned(lambda count: count % 6 < 2, 12), ((6,), ((6, True), (2, False), (3, False))))


class NextQuestionTest(unittest.TestCase):

    def test_the_first_of_the_best(self):
        for yes, no in all_tellings():
            lots = possible_lots(yes, no)
            whole = math.prod(lot_of(yes))
            if len(lots) == 0:
                self.assertEqual(error_of(next_question, yes, no), ("Refused", 1))
            elif len(lots) == 1:
                self.assertIsNone(next_question(yes, no))
            else:
                told = next_question(yes, no)
                self.assertEqual(told, plain_question(lots, whole))
                self.assertIn(told, range(whole))
                self.assertEqual(next_question(list(yes), list(no)), told)

    def test_products_up_to_2000(self):
        for whole in MANY:
            lots = possible_lots((whole, whole + 1), ())
            told = next_question(yes=(whole, whole + 1), no=())
            best = greater_number(lots, told)
            self.assertTrue(all(greater_number(lots, count) > best for count in range(told)))
            self.assertTrue(all(greater_number(lots, count) >= best for count in range(told, whole, 7)))

    def test_each_answer_leaves_fewer(self):
        for yes, no in all_tellings():
            lots = possible_lots(yes, no)
            if len(lots) > 1:
                count = next_question(yes, no)
                for more in [possible_lots(list(yes) + [count], no), possible_lots(yes, list(no) + [count])]:
                    self.assertTrue(0 < len(more) < len(lots))

    def test_what_is_refused_in_its_order(self):
        for yes in PLAIN:
            for no in [(), (0,), (1, 5), (2,)]:
                self.assertEqual(error_of(next_question, yes, no), ("Refused", 0))
        for yes, no in [((2,), (5,)), ((4, 9), (12,)), ((3,), [0]), ((12, 13), (3, 1))]:
            self.assertEqual(error_of(next_question, yes, no), ("Refused", 1))
        for value in NO_COUNTS:
            for yes in [(), (0, 1), (3, 4), [2]]:
                self.assertEqual(error_of(next_question, value, yes), ("InvalidQuestion", 0), value)
                self.assertEqual(error_of(next_question, yes, value), ("InvalidQuestion", 1), value)
            self.assertEqual(error_of(next_question, value, value), ("InvalidQuestion", 0), value)


class LearnedTest(unittest.TestCase):

    def check(self, lot, bound):
        calls = []

        def ask(count):
            calls.append(count)
            return fits(lot, count)

        told, asked = learned(ask, bound)
        self.assertEqual(told, lot)
        self.assertEqual((type(told), type(asked)), (tuple, tuple))
        self.assertEqual(asked, tuple((count, fits(lot, count)) for count in calls))
        self.assertTrue(all(type(pair) is tuple and type(pair[1]) is bool for pair in asked))
        self.assertLess(len(asked), len(possible_lots((bound, bound + 1), ())))
        return asked

    def test_each_lot_question_by_question(self):
        for bound in list(range(1, 41)) + [60, 84, 90, 120]:
            for lot in possible_lots((bound, bound + 1), ()):
                asked = self.check(lot, bound)
                self.assertEqual((lot, asked), plain_learned(lot, bound))

    def test_machines(self):
        for machine in SMALL + LARGE + [EXACTLY_400]:
            told, asked = learned(lambda count: is_batch_number(machine, count), orders(machine))
            self.assertEqual(told, moduli(machine))
            self.assertEqual(asked, tuple((count, is_batch_number(machine, count)) for count, _ in asked))

    def test_a_bound_of_1_and_of_2000(self):
        self.assertEqual(learned(ask=lambda count: True, bound=1), ((), ()))
        self.assertEqual(learned(lambda count: 1 // 0, 2), ((), ()))
        for lot in [(), (3,), (7,), (5, 16), (2000,), (80,), (125, 16)[::-1]]:
            if 2000 % math.prod(lot) == 0:
                self.check(lot, 2000)

    def test_bounds_with_the_most_lots(self):
        for bound in MANY[:5]:
            lots = possible_lots((bound, bound + 1), ())
            for lot in lots[::25] + lots[-1:]:
                self.check(lot, bound)
