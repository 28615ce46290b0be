"""The cycle, and plans that do not repeat early."""

import unittest

from sweeprota.errors import CheckFault, SyntaxFault, TooLong
from sweeprota.machine import find_cycle, robots_in, signs_on, trace
from tests.helpers import SWEEP, counter, ring
from tests.model import Model


class CycleTest(unittest.TestCase):

    def test_rest_at_once(self):
        self.assertEqual((0, 1), find_cycle("corridor 3; signs a; moods m; robot 0 left;"))

    def test_rest_after_some_ticks(self):
        plan = "corridor 3; signs no red; moods go; robot 0 right; when go no leave red on go;"
        self.assertEqual((3, 1), find_cycle(plan))

    def test_all_that_a_situation_is(self):
        # A robot that turns on one tile, one that only changes its mood, one that changes signs.
        head = "corridor 1; signs a b; moods m n; robot 0 left; "
        self.assertEqual((0, 2), find_cycle(head + "when m a leave a on m;"))
        self.assertEqual((0, 2), find_cycle(head + "when m a leave a stay n; when n a leave a stay m;"))
        self.assertEqual((0, 2), find_cycle(head + "when m a leave b stay m; when m b leave a stay m;"))
        self.assertEqual((0, 6), find_cycle(head.replace("corridor 1", "corridor 3") + "when m a leave a on m;"))

    def test_a_cycle_that_begins_later(self):
        head = "corridor 1; signs a b; moods m n; robot 0 left; "
        self.assertEqual((1, 1), find_cycle(head + "when m a leave b stay m;"))
        self.assertEqual((1, 2), find_cycle(head + "when m a leave b stay m; when m b leave b on m;"))

    def test_robots_are_told_apart(self):
        plan = "corridor 2; signs a; moods m; robot 0 right; robot 1 left; when m a leave a on m;"
        self.assertEqual((0, 4), find_cycle(plan))

    def test_a_long_cycle(self):
        self.assertEqual((0, 19682), find_cycle(ring("00000").replace(
            "plus minus add keep", "keep plus minus add").replace("robot 14 left", "robot 8 left")))


class TooLongTest(unittest.TestCase):

    def assert_too_long(self, plan):
        self.assertRaises(TooLong, find_cycle, plan)
        self.assertRaises(TooLong, signs_on, plan, 0)
        self.assertRaises(TooLong, robots_in, plan, 0)
        self.assertRaises(TooLong, next, trace(plan, 0, 0))

    def test_rest_before_and_at_the_limit(self):
        plan = counter(10, "1 right", "add keep", "00000000")
        self.assertEqual((19672, 1), find_cycle(plan))
        plan = counter(13, "1 right", "add keep", "01021222122")
        self.assertEqual((19999, 1), Model(plan).cycle(20001))
        self.assertEqual((19999, 1), find_cycle(plan))
        self.assertEqual([(12, "right", "add")], robots_in(plan, 10 ** 18))
        self.assertEqual([(11, "right", "add")], robots_in(plan, 19997))

    def test_rest_behind_the_limit(self):
        plan = counter(13, "0 left", "keep add", "01021222122")
        self.assertEqual((20000, 1), Model(plan).cycle(20001))
        self.assert_too_long(plan)

    def test_a_long_cycle_that_ends_at_the_limit(self):
        plan = ring("12001")
        self.assertEqual((318, 19682), Model(plan).cycle(20001))
        self.assertEqual((318, 19682), find_cycle(plan))
        self.assertEqual(signs_on(plan, 317), signs_on(plan, 317 + 19682))
        self.assertNotEqual(signs_on(plan, 100), signs_on(plan, 100 + 19682))

    def test_a_long_cycle_that_ends_behind_the_limit(self):
        plan = ring("12001").replace("plus minus add keep", "minus plus add keep")
        plan = plan.replace("robot 14 left", "robot 15 right")
        self.assertEqual((319, 19682), Model(plan).cycle(20001))
        self.assert_too_long(plan)

    def test_much_too_long(self):
        self.assert_too_long(counter(16, "1 right", "add keep", "0" * 14))

    def test_the_order_of_errors(self):
        self.assertRaises(SyntaxFault, find_cycle, "")
        self.assertRaises(CheckFault, find_cycle, "corridor 0; signs a; moods m; robot 0 left;")

    def test_repeated_calls(self):
        for _ in range(2):
            self.assertEqual((0, 6), find_cycle(SWEEP))
            self.assert_too_long(counter(16, "1 right", "add keep", "0" * 14))


if __name__ == "__main__":
    unittest.main()
