"""The first difference of two plans, and the first error of a log."""

import copy
import math
import random
import re
import unittest

from sweeprota.comparison import first_difference, first_error
from sweeprota.errors import CheckFault, OtherCorridor, SyntaxFault, TooLong
from sweeprota.machine import find_cycle, signs_on, trace
from tests.helpers import CHECK_WRONG, SWEEP, SYNTAX_WRONG, TOO_LONG_BARE, FaultCase, random_plan, ring, robot_row
from tests.model import Model, Walk

ONCE = "corridor 3; signs no red; moods go; robot 0 right; when go no leave red on go;"
# Two robots and the tiles that they sweep in the first ticks; then its cycle of 6 ticks begins again.
TWO = "corridor 3; signs a; moods m; robot 0 right; robot 2 right; when m a leave a on m;"
TWO_LOG = [[0, 2], [1, 2], [2, 1], [2, 0], [1, 0], [0, 1]]
# The robot goes to and fro, and leaves another sign in tick 81 for the first and last time.
LAST_RULE = "when p end leave a on k;"
LATE = (
    "corridor 16; signs a end; moods k l m n o p; robot 0 left; put end 15; "
    + "".join(f"when {mood} a leave a on {mood}; " for mood in "klmnop")
    + "".join(f"when {mood} end leave end on {new_mood}; " for mood, new_mood in zip("klmno", "lmnop"))
    + LAST_RULE
)


def writer(signs):
    """A plan that leaves these signs on its one tile, again and again, whatever lies there."""
    moods = "klmnop"[:len(signs)]
    rules = "".join(
        f"when {mood} {seen} leave {sign} stay {new_mood};"
        for mood, sign, new_mood in zip(moods, signs, moods[1:] + moods[0]) for seen in "ab"
    )
    return f"corridor 1; signs a b; moods {' '.join(moods)}; robot 0 left; put {signs[-1]} 0; {rules}"


def walked_difference(plan, other, most=10 ** 5):
    """The same as first_difference, by walking until both cycles end together."""
    start, length = Model(plan).cycle(20000)
    other_start, other_length = Model(other).cycle(20000)
    count = max(start, other_start) + math.lcm(length, other_length)
    assert count <= most
    rows = zip(Walk(plan, count).signs, Walk(other, count).signs)
    return next((tick for tick, (signs, other_signs) in enumerate(rows) if signs != other_signs), None)


class DifferenceTest(unittest.TestCase):

    def assert_first(self, tick, plan, other):
        self.assertEqual(tick, first_difference(plan, other))
        self.assertEqual(tick, first_difference(other, plan))

    def test_equal_plans(self):
        for plan in [SWEEP, ONCE, TWO, LATE, ring("12001")]:
            self.assertIsNone(first_difference(plan, plan))
            self.assertIsNone(first_difference(plan, plan.replace("; ", ";\n")))

    def test_the_signs_in_the_beginning_do_not_matter(self):
        plan = "corridor 1; signs a b; moods m; robot 0 left; when m a leave b stay m;"
        self.assertEqual(signs_on(plan, 0), signs_on(plan + "put b 0;", 0))
        self.assert_first(None, plan, plan + "put b 0;")

    def test_other_signs_on_tiles(self):
        self.assert_first(0, SWEEP, SWEEP + "put red 1;")
        self.assert_first(0, ONCE, ONCE + "put red 2;")
        self.assert_first(None, ONCE, ONCE + "put no 2;")

    def test_other_starts(self):
        self.assert_first(0, SWEEP, SWEEP.replace("robot 0", "robot 1"))
        self.assert_first(1, SWEEP, SWEEP.replace("right", "left"))

    def test_a_further_robot(self):
        self.assert_first(0, SWEEP, SWEEP + "robot 2 left;")
        self.assert_first(None, TWO, TWO + "robot 1 right;")

    def test_robots_in_another_order(self):
        # The first one moves on or turns, and the second one stays, on one tile.
        plan = "corridor 2; signs a b; moods m; robot 0 left; robot 0 right; "
        plan += "when m a leave b on m; when m b leave a stay m;"
        other = plan.replace("0 left; robot 0 right", "0 right; robot 0 left")
        self.assert_first(1, plan, other)
        rest = "corridor 2; signs a; moods m; robot 0 left; robot 1 left;"
        self.assert_first(None, rest, rest.replace("0 left; robot 1", "1 left; robot 0"))

    def test_other_rules(self):
        self.assert_first(0, ONCE, ONCE.replace("leave red", "leave no"))
        self.assert_first(1, ONCE, ONCE.replace("on go", "stay go"))

    def test_only_the_signs_matter(self):
        self.assert_first(None, SWEEP, SWEEP.replace("go", "hurry"))
        self.assert_first(None, SWEEP, SWEEP.replace("moods go", "moods go more"))
        self.assert_first(None, TWO, TWO.replace("robot 0 right;", "robot 1 left;"))

    def test_other_cycles(self):
        # One robot comes to rest on tile 2, the others go to and fro in cycles of 6 and 5 ticks.
        rest = "corridor 3; signs a; moods m n o; robot 0 right; when m a leave a on n; when n a leave a on o;"
        back = rest.replace("m n o;", "m n o p q;")
        back += "when o a leave a back p; when p a leave a on q; when q a leave a on m;"
        self.assertEqual([(2, 1), (0, 6), (0, 5)], [find_cycle(plan) for plan in (rest, TWO, back)])
        for plan in [rest, TWO, back]:
            for other in [rest, TWO, back]:
                self.assert_first(None, plan, other)

    def test_in_a_cycle(self):
        self.assertEqual([(0, 6), (3, 1)], [find_cycle(plan) for plan in (SWEEP, ONCE)])
        self.assert_first(3, SWEEP, ONCE)

    def test_before_the_cycles(self):
        other = ONCE.replace("moods go", "moods go come").replace("on go", "on come") + "when come no leave no on come;"
        self.assertEqual([(3, 1), (5, 1)], [find_cycle(plan) for plan in (ONCE, other)])
        self.assert_first(1, ONCE, other)

    def test_between_the_beginnings_of_the_cycles(self):
        other = ONCE.replace("moods go", "moods go stop").replace("on go", "on stop")
        self.assertEqual((1, 1), find_cycle(other))
        self.assert_first(1, ONCE, other)

    def test_long_after_the_first_cycle(self):
        rest = LATE[:LATE.index("when")]
        self.assertEqual((0, 1), find_cycle(rest))
        self.assert_first(81, LATE, rest)
        self.assert_first(81, LATE, LATE.replace(LAST_RULE, ""))

    def test_behind_both_first_cycles(self):
        # Rows with the periods 2 and 3, and 5 and 6, that are equal for as long as possible.
        self.assert_first(3, writer("ba"), writer("bab"))
        self.assertEqual([(0, 5), (0, 6)], [find_cycle(writer(signs)) for signs in ("aaaab", "aaaaba")])
        self.assert_first(9, writer("aaaab"), writer("aaaaba"))
        self.assert_first(None, writer("ba"), writer("bababa"))
        self.assert_first(None, writer("bab"), writer("babbab"))
        self.assert_first(None, writer("ba"), writer("baba"))

    def test_behind_thousands_of_ticks(self):
        # One of the counters begins again after an overflow, the other one rests.
        plan = ring("12001")
        other = plan.replace("when add end leave end back keep;", "")
        tick = first_difference(plan, other)
        self.assertLess(19000, tick)
        self.assertEqual(signs_on(plan, tick - 1), signs_on(other, tick - 1))
        self.assertNotEqual(signs_on(plan, tick), signs_on(other, tick))
        self.assert_first(walked_difference(plan, other), plan, other)


class DifferenceErrorTest(FaultCase, unittest.TestCase):

    def test_other_corridors(self):
        plan = "corridor 3; signs a b; moods m; robot 0 left;"
        for change in [("corridor 3", "corridor 2"), ("corridor 3", "corridor 4"), ("a b", "a"), ("a b", "a b c"),
                       ("a b", "a c"), ("a b", "b a")]:
            with self.subTest(change=change):
                self.assertRaises(OtherCorridor, first_difference, plan, plan.replace(*change))
                self.assertRaises(OtherCorridor, first_difference, plan.replace(*change), plan)

    def test_no_plans(self):
        for wrong in [None, True, 1, "", [SWEEP], (SWEEP,)]:
            self.assertRaises(SyntaxFault, first_difference, SWEEP, wrong)
            self.assertRaises(SyntaxFault, first_difference, wrong, SWEEP)

    def test_the_order_of_errors(self):
        for wrong in [SWEEP, CHECK_WRONG, TOO_LONG_BARE]:
            self.assertRaises(SyntaxFault, first_difference, SYNTAX_WRONG, wrong)
            self.assertRaises(SyntaxFault, first_difference, wrong, SYNTAX_WRONG)
        for wrong in [SWEEP, TOO_LONG_BARE]:
            self.assertRaises(CheckFault, first_difference, CHECK_WRONG, wrong)
            self.assertRaises(CheckFault, first_difference, wrong, CHECK_WRONG)
        self.assertRaises(OtherCorridor, first_difference, SWEEP, TOO_LONG_BARE)
        self.assertRaises(OtherCorridor, first_difference, TOO_LONG_BARE, SWEEP)

    def test_the_first_one_of_two_faults(self):
        self.assert_fault(SyntaxFault, {"line": 0, "column": 9}, first_difference, "corridor ;", "A")
        self.assert_fault(
            CheckFault, {"reason": "tile", "line": 0, "column": 36},
            first_difference, "corridor 2; signs a; moods m; robot 2 left;", CHECK_WRONG,
        )

    def test_too_long(self):
        rest = TOO_LONG_BARE[:TOO_LONG_BARE.index("when")]
        self.assertRaises(TooLong, first_difference, TOO_LONG_BARE, rest)
        # The signs differ after tick 0, but the second plan is too long, too.
        self.assertNotEqual(["end"], signs_on(rest, 0)[15:])
        self.assertRaises(TooLong, first_difference, rest, TOO_LONG_BARE)
        self.assertRaises(TooLong, first_difference, TOO_LONG_BARE, TOO_LONG_BARE)


class LogTest(unittest.TestCase):

    def test_right_logs(self):
        log = [[0], [1], [2], [2], [1], [0]]
        for length in range(7):
            self.assertIsNone(first_error(SWEEP, log[:length]))
            self.assertIsNone(first_error(TWO, TWO_LOG[:length]))
        self.assertIsNone(first_error(TWO, TWO_LOG * 50 + TWO_LOG[:3]))
        self.assertIsNone(first_error(ONCE, [[0], [1], [2]] + [[2]] * 100))

    def test_wrong_at_the_first_a_middle_and_the_last_item(self):
        for at in range(6):
            self.assertEqual(at, first_error(TWO, TWO_LOG[:at] + [[1, 1]] + TWO_LOG[at + 1:]))

    def test_the_first_of_several_errors(self):
        self.assertEqual(2, first_error(TWO, TWO_LOG[:2] + [[0, 0], [0, 0]] + TWO_LOG[4:]))

    def test_longer_than_the_cycle(self):
        log = TWO_LOG * 3
        for at in [6, 7, 11, 12, 17]:
            self.assertEqual(at, first_error(TWO, log[:at] + [[1, 1]] + log[at + 1:]))
        self.assertEqual(18, first_error(TWO, log + [[2, 0]]))

    def test_the_order_of_the_robots(self):
        self.assertEqual(0, first_error(TWO, [[2, 0]]))
        self.assertEqual(1, first_error(TWO, [[0, 2], [2, 1]]))

    def test_items_of_another_length(self):
        for item in [[], [1], [1, 2, 2], [2], [1, 2, True], [[1, 2]]]:
            self.assertEqual(1, first_error(TWO, [[0, 2], item, [2, 1]]))

    def test_items_with_other_values(self):
        for item in [[True, 2], [1, None], ["1", 2], [1, "2"], [[1], 2], [1, (2,)], [-1, 2], [1, 10 ** 18]]:
            self.assertEqual(1, first_error(TWO, [[0, 2], item]))
        for item in [[False, 2], [None, None], ["", 2]]:
            self.assertEqual(0, first_error(TWO, [item]))

    def test_items_that_are_no_lists(self):
        for item in [(1, 2), None, True, 1, 12, "", "12", ()]:
            self.assertEqual(1, first_error(TWO, [[0, 2], item]))
        self.assertEqual(0, first_error(SWEEP, [(0,)]))
        self.assertEqual(0, first_error(SWEEP, [0]))

    def test_arguments_that_are_no_lists(self):
        for log in [None, True, 0, 7, "", "[[0]]", (), ([0],), ([0], [1])]:
            self.assertEqual(0, first_error(SWEEP, log))

    def test_the_log_is_not_changed(self):
        log = copy.deepcopy(TWO_LOG)
        for _ in range(2):
            self.assertIsNone(first_error(TWO, log))
            self.assertEqual(TWO_LOG, log)

    def test_errors(self):
        for log in [[], [[0]], None, 3]:
            self.assertRaises(SyntaxFault, first_error, SYNTAX_WRONG, log)
            self.assertRaises(CheckFault, first_error, CHECK_WRONG, log)
            self.assertRaises(TooLong, first_error, TOO_LONG_BARE, log)
        self.assertRaises(SyntaxFault, first_error, None, [])


class WalkingTest(unittest.TestCase):
    """Random plans and logs, compared with plain walking."""

    def test_differences(self):
        chance = random.Random(17)
        kinds = {"none": 0, "before": 0, "later": 0}
        for _ in range(600):
            plan = random_plan(chance, (1, 2, 3, 5))
            other = self.changed(chance, plan)
            cycles = [Model(text).cycle(300) for text in (plan, other)]
            if None in cycles or math.lcm(cycles[0][1], cycles[1][1]) > 3000:
                continue
            with self.subTest(plan, other=other):
                expected = walked_difference(plan, other)
                self.assertEqual(expected, first_difference(plan, other))
                kinds[self.kind_of(expected, cycles)] += 1
        self.assertTrue(all(kinds.values()), kinds)

    def changed(self, chance, plan):
        """The plan with another start, with another put, with another rule or with a further robot."""
        model = Model(plan)
        start = robot_row(chance, model.size)
        put = f"put {chance.choice(model.sign_names)} {chance.randrange(model.size)};"
        rule = f" {chance.choice(['on', 'back', 'stay'])} {chance.choice(model.mood_names)};"
        return chance.choice([
            re.sub("robot [0-9]+ [a-z]+;", start, plan, count=1),
            re.sub("put [a-z]+ [0-9]+;", "", plan) + put,
            re.sub(" (on|back|stay) [a-z]+;", rule, plan, count=1),
            plan + start if len(model.robots) < 3 else plan,
        ])

    def kind_of(self, tick, cycles):
        if tick is None:
            return "none"
        return "before" if tick < min(start for start, _ in cycles) else "later"

    def test_writers(self):
        chance = random.Random(23)
        behind = 0
        for _ in range(1500):
            one, two = ("".join(chance.choices("ab", [3, 1], k=chance.randint(1, 6))) for _ in range(2))
            rows = [(signs * 30)[:30] for signs in (one, two)]
            expected = next((tick for tick in range(30) if rows[0][tick] != rows[1][tick]), None)
            with self.subTest(one=one, two=two):
                self.assertEqual(expected, first_difference(writer(one), writer(two)))
            behind += expected is not None and expected >= max(len(one), len(two))
        self.assertLess(10, behind)

    def test_logs(self):
        chance = random.Random(19)
        for _ in range(200):
            plan = random_plan(chance)
            if Model(plan).cycle(500) is None:
                continue
            log = Walk(plan, 600).tiles[:chance.randrange(1, 600)]
            with self.subTest(plan, length=len(log)):
                self.assertIsNone(first_error(plan, log))
                self.assertEqual([row[2] for row in trace(plan, 0, 0)], log[0])
                at = chance.randrange(len(log))
                log[at][-1] += chance.choice([-1, 1])
                self.assertEqual(at, first_error(plan, log))


if __name__ == "__main__":
    unittest.main()
