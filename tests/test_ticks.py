"""What robots do in a tick, and the situation after it."""

import unittest

from sweeprota.errors import CheckFault, InvalidTick, SyntaxFault, TooLong
from sweeprota.machine import robots_in, signs_on, trace
from tests.helpers import NO_NUMBERS, SWEEP, counter

NO_TICKS = [-1, 10 ** 18 + 1, -10 ** 18] + NO_NUMBERS
TOO_LONG = counter(14, "1 right", "add keep", "0" * 12)


def places(plan, count):
    """The tile and the direction of robot 0 after each of the first ticks."""
    return [robots_in(plan, tick)[0][:2] for tick in range(count)]


def always(size, start, move):
    """A plan with a robot that does the same in each tick."""
    return f"corridor {size}; signs a; moods m; robot {start}; when m a leave a {move} m;"


class MoveTest(unittest.TestCase):

    def test_on_in_both_directions(self):
        self.assertEqual(
            [(2, "right"), (2, "left"), (1, "left"), (0, "left"), (0, "right"), (1, "right")],
            places(always(3, "1 right", "on"), 6),
        )
        self.assertEqual(
            [(0, "left"), (0, "right"), (1, "right"), (2, "right"), (2, "left")],
            places(always(3, "1 left", "on"), 5),
        )

    def test_back_in_both_directions(self):
        self.assertEqual([(0, "left"), (1, "right"), (0, "left")], places(always(3, "1 right", "back"), 3))
        self.assertEqual([(2, "right"), (1, "left"), (2, "right")], places(always(3, "1 left", "back"), 3))

    def test_back_towards_an_end(self):
        self.assertEqual([(0, "right"), (0, "right")], places(always(3, "0 right", "back"), 2))
        self.assertEqual([(2, "left"), (2, "left")], places(always(3, "2 left", "back"), 2))

    def test_back_away_from_an_end(self):
        self.assertEqual([(1, "right")], places(always(3, "0 left", "back"), 1))
        self.assertEqual([(1, "left")], places(always(3, "2 right", "back"), 1))

    def test_stay(self):
        for start in ["0 left", "0 right", "1 left", "2 right"]:
            tile, side = start.split()
            self.assertEqual([(int(tile), side)] * 2, places(always(3, start, "stay"), 2))

    def test_one_tile(self):
        self.assertEqual([(0, "right"), (0, "left")], places(always(1, "0 left", "on"), 2))
        self.assertEqual([(0, "left"), (0, "left")], places(always(1, "0 left", "back"), 2))
        self.assertEqual([(0, "right"), (0, "right")], places(always(1, "0 right", "back"), 2))
        self.assertEqual([(0, "right"), (0, "right")], places(always(1, "0 right", "stay"), 2))

    def test_rest(self):
        plan = "corridor 2; signs a b; moods m n; robot 0 left; when m b leave a on n; when n a leave b on n;"
        self.assertEqual([(0, "left", "m")], robots_in(plan, 7))
        self.assertEqual(["a", "a"], signs_on(plan, 7))

    def test_sign_and_mood_change_with_each_move(self):
        for move in ["on", "back", "stay"]:
            plan = f"corridor 3; signs a b; moods m n; robot 1 left; when m a leave b {move} n;"
            self.assertEqual(["a", "b", "a"], signs_on(plan, 0))
            self.assertEqual("n", robots_in(plan, 0)[0][2])

    def test_the_beginning(self):
        plan = "corridor 4; signs a b; moods m n; robot 2 left; robot 1 right; put b 3; put a 0;"
        self.assertEqual(["a", "a", "a", "b"], signs_on(plan, 0))
        self.assertEqual([(2, "left", "m"), (1, "right", "m")], robots_in(plan, 0))

    def test_the_sign_that_lies_there_decides(self):
        plan = "corridor 3; signs a b; moods m; robot 1 left; put b 1; when m a leave a on m; when m b leave b back m;"
        self.assertEqual([(2, "right", "m")], robots_in(plan, 0))


class SeveralRobotsTest(unittest.TestCase):

    def test_a_later_robot_sees_the_sign_of_an_earlier_one(self):
        plan = (
            "corridor 3; signs a b c; moods m; robot 1 left; robot 1 right; robot 1 right; "
            "when m a leave b on m; when m b leave c on m; when m c leave a stay m;"
        )
        self.assertEqual(["a", "a", "a"], signs_on(plan, 0))
        self.assertEqual([(0, "left", "m"), (2, "right", "m"), (1, "right", "m")], robots_in(plan, 0))

    def test_the_order_of_the_plan_decides(self):
        rules = "when m a leave b stay m; when m b leave b on n;"
        plan = "corridor 3; signs a b; moods m n; robot 1 right; robot 1 left; " + rules
        self.assertEqual([(1, "right", "m"), (0, "left", "n")], robots_in(plan, 0))

    def test_an_earlier_rule_can_let_a_later_robot_rest(self):
        plan = "corridor 2; signs a b; moods m; robot 0 right; robot 0 right; when m a leave b on m;"
        self.assertEqual([(0, 0, 0, "on"), (0, 1, 0, "rest")], list(trace(plan, 0, 0)))

    def test_a_robot_that_arrives_does_not_act_again(self):
        plan = "corridor 3; signs a b; moods m; robot 0 right; robot 1 right; when m a leave b on m;"
        self.assertEqual(["b", "b", "a"], signs_on(plan, 0))
        self.assertEqual([(1, "right", "m"), (2, "right", "m")], robots_in(plan, 0))
        self.assertEqual([(1, "right", "m"), (2, "left", "m")], robots_in(plan, 1))


class TickTest(unittest.TestCase):

    def test_after_means_after(self):
        self.assertEqual(["red", "no", "no"], signs_on(SWEEP, 0))
        self.assertEqual([(1, "right", "go")], robots_in(SWEEP, 0))

    def test_great_ticks(self):
        # The cycle has 6 ticks from tick 0 on, and 10 ** 18 + 1 is 5 more than a multiple of 6.
        self.assertEqual(signs_on(SWEEP, 4), signs_on(SWEEP, 10 ** 18))
        self.assertEqual([(0, "left", "go")], robots_in(SWEEP, 10 ** 18))
        self.assertEqual(signs_on(SWEEP, 3), signs_on(SWEEP, 10 ** 18 - 1))
        self.assertEqual([(1, "left", "go")], robots_in(SWEEP, 10 ** 18 - 1))

    def test_ticks_around_the_beginning_of_the_cycle(self):
        plan = (
            "corridor 4; signs a b; moods m n; robot 0 right; "
            "when m a leave b on m; when m b leave b on n; when n b leave b back n;"
        )
        # After the ticks 0 to 4: four signs, a turn at the end, and then to and fro for ever.
        robots = [(1, "right", "m"), (2, "right", "m"), (3, "right", "m"), (3, "left", "m"), (2, "left", "n")]
        for tick, robot in enumerate(robots):
            self.assertEqual([robot], robots_in(plan, tick))
            self.assertEqual(["b"] * min(tick + 1, 4) + ["a"] * (3 - tick), signs_on(plan, tick))
        for tick in [5, 7, 99, 10 ** 18 - 1]:
            self.assertEqual([(3, "right", "n")], robots_in(plan, tick))
        for tick in [6, 8, 100, 10 ** 18]:
            self.assertEqual([(2, "left", "n")], robots_in(plan, tick))

    def test_invalid_ticks(self):
        for tick in NO_TICKS:
            for call in [signs_on, robots_in]:
                with self.subTest(tick=tick):
                    self.assertRaises(InvalidTick, call, SWEEP, tick)

    def test_the_order_of_errors(self):
        for call in [signs_on, robots_in]:
            self.assertRaises(SyntaxFault, call, "corridor 0; A", -1)
            self.assertRaises(CheckFault, call, "corridor 0; signs a; moods m; robot 0 left;", -1)
            self.assertRaises(InvalidTick, call, TOO_LONG, -1)
            self.assertRaises(TooLong, call, TOO_LONG, 0)

    def test_changed_lists_have_no_effect(self):
        for call in [signs_on, robots_in]:
            result = call(SWEEP, 3)
            copy = list(result)
            self.assertIs(list, type(result))
            result.clear()
            self.assertEqual(copy, call(SWEEP, 3))


if __name__ == "__main__":
    unittest.main()
