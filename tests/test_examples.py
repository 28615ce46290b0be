"""The examples of the interface, and those of README.md."""

import doctest
import pathlib
import unittest

from sweeprota.comparison import first_difference, first_error
from sweeprota.corridor import Corridor
from sweeprota.encoding import decode, encode
from sweeprota.errors import CheckFault, InvalidCode, InvalidOperation, SyntaxFault, UnknownSign
from sweeprota.formatter import format_plan, signs_of
from sweeprota.machine import find_cycle, robots_in, signs_on, trace
from sweeprota.planning import fewest_signs, good_starts
from sweeprota.sweeping import count_swept, longest_wait, never_swept, next_swept, rest_tick, swept_for_ever
from sweeprota.watching import Watcher
from tests.helpers import SWEEP, FaultCase


class ExampleTest(FaultCase, unittest.TestCase):

    def test_format_plan(self):
        text = (
            "corridor 3; signs no red; moods go; robot 1 right; "
            "when go red leave no on go; put red 2; robot 0 left;"
        )
        self.assertEqual(
            "corridor 3;\nsigns no red;\nmoods go;\nrobot 1 right;\nrobot 0 left;\n"
            "put red 2;\nwhen go red leave no on go;",
            format_plan(text),
        )

    def test_format_plan_faults(self):
        self.assert_fault(SyntaxFault, {"line": 0, "column": 17}, format_plan, "corridor 3; signs;")
        self.assert_fault(
            CheckFault, {"reason": "tile", "line": 0, "column": 38},
            format_plan, "corridor 3; signs no; moods go; robot 3 left;",
        )

    def test_signs_of(self):
        self.assertEqual(["no", "red"], signs_of(SWEEP))

    def test_signs_on(self):
        self.assertEqual(["red", "red", "no"], signs_on(SWEEP, 1))

    def test_robots_in(self):
        self.assertEqual([(2, "left", "go")], robots_in(SWEEP, 2))

    def test_trace(self):
        self.assertEqual([(2, 0, 2, "on"), (3, 0, 2, "on")], list(trace(SWEEP, 2, 3)))

    def test_find_cycle(self):
        self.assertEqual((0, 6), find_cycle(SWEEP))

    def test_rest_tick(self):
        self.assertEqual(3, rest_tick(
            "corridor 3; signs no red; moods go; robot 0 right; when go no leave red on go;"))

    def test_swept_for_ever(self):
        self.assertEqual([0, 1, 2], swept_for_ever(SWEEP))

    def test_never_swept(self):
        self.assertEqual([0, 2], never_swept(
            "corridor 3; signs no; moods go; robot 1 right; when go no leave no stay go;"))

    def test_count_swept(self):
        self.assertEqual(4, count_swept(SWEEP, 2, 12))

    def test_next_swept(self):
        self.assertEqual(5, next_swept(SWEEP, 0, 1))

    def test_longest_wait(self):
        self.assertEqual((5, 0, 0), longest_wait(SWEEP))

    def test_fewest_signs(self):
        plan = "corridor 2; signs no red; moods go; robot 0 right; " \
            "when go red leave red on go; when go no leave no stay go;"
        self.assertEqual([(0, "red"), (1, "red")], fewest_signs(plan, 2)[0])

    def test_good_starts(self):
        self.assertEqual(
            [(0, "left"), (0, "right"), (1, "left"), (1, "right")],
            good_starts("corridor 2; signs no; moods go; robot 0 right; when go no leave no on go;"),
        )

    def test_first_difference(self):
        other = "corridor 3; signs no red; moods go; robot 0 right; when go no leave red on go;"
        self.assertEqual(3, first_difference(SWEEP, other))

    def test_first_error(self):
        self.assertEqual(2, first_error(SWEEP, [[0], [1], [1]]))

    def test_watcher(self):
        watcher = Watcher(SWEEP, 0)
        self.assertEqual(["no", "red"], watcher.possible(0))
        self.assertEqual(2, watcher.see(0, "red"))
        self.assertEqual([(0, "left"), (0, "right")], watcher.starts)
        self.assertEqual([(0, "red")], watcher.history)
        self.assertEqual(1, Watcher(SWEEP, 0).see_from(0, "red", "no"))
        self.assertRaises(UnknownSign, Watcher(SWEEP, 0).see, 0, "blue")

    def test_encode_and_decode(self):
        code = [82, 2, 1, 2, 13, 14, 1, 2, 6, 14, 1, 0, 1, 0, 0, 1, 0, 0, 0, 0, 0, 140]
        self.assertEqual(
            code, encode("corridor 2; signs no; moods go; robot 0 right; when go no leave no on go;"))
        self.assertEqual(
            "corridor 2;\nsigns no;\nmoods go;\nrobot 0 right;\nwhen go no leave no on go;", decode(code))
        self.assert_fault(InvalidCode, {"place": 1}, decode, [82, 17])

    def test_corridor(self):
        self.assertEqual([[0], [1]], Corridor(SWEEP).step(2))
        self.assertEqual("no", Corridor(SWEEP).put(0, "red"))
        corridor = Corridor(SWEEP)
        self.assertEqual(0, corridor.turn(0))
        self.assertEqual([(0, "left", "go")], corridor.robots_now)
        corridor = Corridor(SWEEP)
        corridor.step(9)
        self.assertEqual(9, corridor.passed)
        corridor = Corridor(SWEEP)
        corridor.step(1)
        self.assertEqual(["red", "no", "no"], corridor.signs_now)
        corridor.step(3)
        self.assertEqual([1, 1, 2], corridor.sweeps)
        self.assertEqual(["step", "step"], corridor.operations)

    def test_undo_and_redo(self):
        corridor = Corridor(SWEEP)
        corridor.step(1)
        self.assertEqual([True, 0, False], [corridor.undo(), corridor.passed, corridor.undo()])
        self.assertEqual([True, 1], [corridor.redo(), corridor.passed])

    def test_save_and_restore(self):
        corridor = Corridor(SWEEP)
        self.assertIsNone(corridor.save("x"))
        corridor.step(1)
        self.assertIsNone(corridor.restore("x"))
        self.assertEqual(0, corridor.passed)

    def test_batch_and_replay(self):
        self.assertEqual([[[0]], True], Corridor(SWEEP).batch([("step", 1), ("undo",)]))
        self.assert_fault(InvalidOperation, {"place": 0}, Corridor(SWEEP).batch, [("step",)])
        self.assertEqual(["red", "red", "red"], Corridor.replay(SWEEP, [("step", 3)]).signs_now)

    def test_the_readme(self):
        file = pathlib.Path(__file__).resolve().parent.parent / "README.md"
        failed, tried = doctest.testfile(str(file), module_relative=False)
        self.assertEqual(0, failed)
        self.assertGreater(tried, 30)


if __name__ == "__main__":
    unittest.main()
