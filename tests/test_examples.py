"""The examples of the interface."""

import unittest

from sweeprota.errors import CheckFault, SyntaxFault
from sweeprota.formatter import format_plan, signs_of
from sweeprota.machine import find_cycle, robots_in, signs_on, trace
from tests.helpers import SWEEP, FaultCase


class ExampleTest(FaultCase, unittest.TestCase):

    def test_format_plan(self):
        text = (
            "corridor 3; signs no red; moods go; robot 1 right; "
            "when go red leave no on go; put red 2; robot 0 left;"
        )
        self.assertEqual(
            "corridor 3;\nsigns no red;\nmoods go;\nrobot 1 right;\nrobot 0 left;\n"
            "put red 2;\nwhen go red leave no on go;",
            format_plan(text),
        )

    def test_format_plan_faults(self):
        self.assert_fault(SyntaxFault, {"line": 0, "column": 17}, format_plan, "corridor 3; signs;")
        self.assert_fault(
            CheckFault, {"reason": "tile", "line": 0, "column": 38},
            format_plan, "corridor 3; signs no; moods go; robot 3 left;",
        )

    def test_signs_of(self):
        self.assertEqual(["no", "red"], signs_of(SWEEP))

    def test_signs_on(self):
        self.assertEqual(["red", "red", "no"], signs_on(SWEEP, 1))

    def test_robots_in(self):
        self.assertEqual([(2, "left", "go")], robots_in(SWEEP, 2))

    def test_trace(self):
        self.assertEqual([(2, 0, 2, "on"), (3, 0, 2, "on")], list(trace(SWEEP, 2, 3)))

    def test_find_cycle(self):
        self.assertEqual((0, 6), find_cycle(SWEEP))


if __name__ == "__main__":
    unittest.main()
