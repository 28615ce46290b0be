"""The generator trace."""

import types
import unittest

from sweeprota.errors import CheckFault, InvalidTick, SyntaxFault, TooLong
from sweeprota.machine import trace
from tests.helpers import SWEEP
from tests.test_ticks import NO_TICKS, TOO_LONG

THREE = (
    "corridor 3; signs a b; moods m n; robot 0 right; robot 2 left; robot 2 right; "
    "when m a leave b on m; when m b leave b back n; when n b leave a stay n;"
)


class TraceTest(unittest.TestCase):

    def test_words_and_tiles_of_all_robots(self):
        expected = [
            (0, 0, 0, "on"), (0, 1, 2, "on"), (0, 2, 2, "back"),
            (1, 0, 1, "on"), (1, 1, 1, "back"), (1, 2, 1, "stay"),
            (2, 0, 2, "back"), (2, 1, 2, "stay"), (2, 2, 1, "rest"),
            (3, 0, 1, "rest"), (3, 1, 2, "rest"), (3, 2, 1, "rest"),
        ]
        self.assertEqual(expected, list(trace(THREE, 0, 3)))
        self.assertEqual(expected[6:9], list(trace(THREE, 2, 2)))

    def test_the_ticks_are_those_asked_for(self):
        # The cycle has 6 ticks, and this first tick is one more than a multiple of 6.
        first = 10 ** 18 - 3
        self.assertEqual(
            [(first, 0, 1, "on"), (first + 1, 0, 2, "on"), (first + 2, 0, 2, "on"), (first + 3, 0, 1, "on")],
            list(trace(SWEEP, first, first + 3)),
        )

    def test_the_last_tick(self):
        for first in [0, 1, 7, 1000, 10 ** 18 - 499]:
            for last, count in [(first - 1, 0), (first, 1), (first + 499, 500)]:
                with self.subTest(first=first, last=last):
                    ticks = [row[0] for row in trace(SWEEP, first, last)]
                    self.assertEqual(list(range(first, first + count)), ticks)
            for last in [first - 2, first + 500, first + 501]:
                with self.subTest(first=first, last=last):
                    self.assertRaises(InvalidTick, list, trace(SWEEP, first, last))

    def test_the_greatest_tick(self):
        most = 10 ** 18
        self.assertEqual(1, len(list(trace(SWEEP, most, most))))
        self.assertEqual([], list(trace(SWEEP, most, most - 1)))
        self.assertEqual(301, len(list(trace(SWEEP, most - 300, most))))
        self.assertRaises(InvalidTick, list, trace(SWEEP, most, most + 1))
        self.assertRaises(InvalidTick, list, trace(SWEEP, most - 300, most + 1))
        self.assertRaises(InvalidTick, list, trace(SWEEP, most + 1, most))

    def test_invalid_ticks(self):
        for tick in NO_TICKS:
            with self.subTest(tick=tick):
                self.assertRaises(InvalidTick, list, trace(SWEEP, tick, 0))
                if tick != -1:
                    self.assertRaises(InvalidTick, list, trace(SWEEP, 0, tick))
                self.assertRaises(InvalidTick, list, trace(SWEEP, 1, tick))

    def test_errors_come_with_the_first_tuple(self):
        wrong = [
            (SyntaxFault, "corridor", 0, 0),
            (SyntaxFault, None, -1, None),
            (CheckFault, "corridor 0; signs a; moods m; robot 0 left;", -1, None),
            (InvalidTick, SWEEP, -1, 0),
            (InvalidTick, SWEEP, 0, 500),
            (InvalidTick, TOO_LONG, 0, 500),
            (TooLong, TOO_LONG, 0, 0),
            (TooLong, TOO_LONG, 5, 4),
        ]
        for error, plan, first, last in wrong:
            with self.subTest(error=error, first=first, last=last):
                steps = trace(plan, first, last)
                self.assertIs(types.GeneratorType, type(steps))
                self.assertRaises(error, next, steps)

    def test_tuples_come_one_by_one(self):
        steps = trace(SWEEP, 0, 1)
        self.assertEqual((0, 0, 0, "on"), next(steps))
        self.assertEqual((1, 0, 1, "on"), next(steps))
        self.assertRaises(StopIteration, next, steps)

    def test_two_traces_at_once(self):
        self.assertEqual(
            [(row, row) for row in trace(THREE, 0, 9)],
            list(zip(trace(THREE, 0, 9), trace(THREE, 0, 9))),
        )


if __name__ == "__main__":
    unittest.main()
