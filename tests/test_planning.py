"""The fewest signs, and the good starts."""

import itertools
import random
import re
import unittest

from sweeprota.errors import CheckFault, InvalidNumber, SyntaxFault, TooLong
from sweeprota.formatter import format_plan
from sweeprota.machine import find_cycle
from sweeprota.planning import fewest_signs, good_starts
from sweeprota.sweeping import swept_for_ever
from tests.helpers import CHECK_WRONG, COUNTING, SWEEP, SYNTAX_WRONG, TOO_LONG_BARE, counter, random_plan
from tests.model import Model, Walk, starts_in, with_start
from tests.test_ticks import TOO_LONG

NO_LIMITS = [-1, 4, 5, 10 ** 18, True, False, None, "0", "", [], [0], (), (0,)]
# Robots go on over red signs only: as many signs are needed as there are tiles.
RED = "when go red leave red on go; when go no leave no stay go;"
# The robot goes to and fro only if the right sign lies on its first tile; with an end it counts very long.
CHOICE = (
    "corridor 16; signs zero one two end; moods wait walk add keep; robot 1 right; "
    "when wait one leave zero on walk; when walk zero leave zero on walk; when wait end leave end on add; " + COUNTING
)
# All tiles are swept for ever without a sign, and with an end on tile 15 it counts very long.
WALKER = (
    "corridor 16; signs zero one two end; moods walk add keep; robot 1 right; "
    "when walk zero leave zero on walk; when walk end leave end back keep; " + COUNTING
)


def red_plan(size, more=""):
    return f"corridor {size}; signs no red; moods go; robot 0 right; {more}{RED}"


def sweeps_all(text):
    """Whether all tiles are swept for ever, by walking; TooLong if it takes too long."""
    cycle = Model(text).cycle(20000)
    if cycle is None:
        raise TooLong
    start, length = cycle
    walk = Walk(text, start + length)
    return {tile for tiles in walk.tiles[start:] for tile in tiles} == set(range(walk.size))


def fewest_of_all(text, limit):
    """The same as fewest_signs, by trying all that can lie on the tiles."""
    model = Model(text)
    sweeps_all(text)
    bare = re.sub("put [a-z]+ [0-9]+;", "", text)
    lists = []
    for numbers in itertools.product(range(len(model.sign_names)), repeat=model.size):
        lists.append([(tile, number) for tile, number in enumerate(numbers) if number > 0])
    for pairs in sorted(lists, key=lambda pairs: (len(pairs), pairs)):
        if len(pairs) > limit:
            return None
        named = [(tile, model.sign_names[number]) for tile, number in pairs]
        changed = bare + "".join(f" put {name} {tile};" for tile, name in named)
        if sweeps_all(changed):
            return named, format_plan(changed)
    return None


def good_of_all(text):
    """The same as good_starts, by walking."""
    return [start for start in starts_in(Model(text).size) if sweeps_all(with_start(text, start))]


def result_of(call, *arguments):
    """The result of a call, or the name TooLong."""
    try:
        return call(*arguments)
    except TooLong:
        return "TooLong"


class FewestTest(unittest.TestCase):

    def signs(self, plan, limit):
        return fewest_signs(plan, limit)[0]

    def test_none_needed(self):
        for limit in range(4):
            self.assertEqual(([], format_plan(SWEEP)), fewest_signs(SWEEP, limit))
        self.assertEqual([], self.signs(red_plan(1), 3))

    def test_one_to_three_needed(self):
        one = "corridor 3; signs no red; moods wait go; robot 1 left; "
        one += "when wait red leave no on go; when go no leave no on go;"
        self.assertEqual([(1, "red")], self.signs(one, 1))
        self.assertEqual([(1, "red")], self.signs(one, 3))
        self.assertEqual([(0, "red"), (1, "red")], self.signs(red_plan(2), 3))
        self.assertEqual([(0, "red"), (1, "red"), (2, "red")], self.signs(red_plan(3), 3))

    def test_more_than_the_limit(self):
        for size in [2, 3, 4]:
            for limit in range(min(size, 4)):
                self.assertIsNone(fewest_signs(red_plan(size), limit))

    def test_no_way_at_all(self):
        plan = "corridor 2; signs no red blue; moods go; robot 0 right;"
        for limit in range(4):
            self.assertIsNone(fewest_signs(plan, limit))
        # More signs are wanted than there are tiles, or signs.
        self.assertIsNone(fewest_signs("corridor 2; signs no; moods go; robot 0 right;", 3))

    def test_own_puts_that_are_needed(self):
        plan = red_plan(2, "put red 0; put red 1; ")
        self.assertEqual([0, 1], swept_for_ever(plan))
        self.assertIsNone(fewest_signs(plan, 1))
        self.assertEqual(([(0, "red"), (1, "red")], format_plan(plan)), fewest_signs(plan, 2))

    def test_own_puts_that_hinder(self):
        free = SWEEP.replace("no red;", "no red stop;")
        plan = free + "put stop 1; put red 2;"
        self.assertEqual([1], swept_for_ever(plan))
        self.assertEqual(([], format_plan(free)), fewest_signs(plan, 0))

    def test_the_canonical_text(self):
        plan = (
            "corridor 2; signs no red; moods go; robot 1\nright; put no 1; "
            "when go red leave red on go; put red 0; when go no leave no stay go;"
        )
        head = "corridor 2;\nsigns no red;\nmoods go;\nrobot 1 right;\n"
        rules = "when go no leave no stay go;\nwhen go red leave red on go;"
        self.assertEqual(
            ([(0, "red"), (1, "red")], head + "put red 0;\nput red 1;\n" + rules), fewest_signs(plan, 3))
        # With a second robot both tiles are swept without a sign.
        self.assertEqual(([], head + "robot 0 left;\n" + rules), fewest_signs(plan + "robot 0 left;", 3))

    def test_list_order_is_that_of_the_signs_in_the_plan(self):
        rules = "when wait red leave no on go; when wait blue leave no on go; when go no leave no on go;"
        for signs, first in [("no red blue", "red"), ("no blue red", "blue")]:
            plan = f"corridor 3; signs {signs}; moods wait go; robot 1 left; {rules}"
            self.assertEqual([(1, first)], self.signs(plan, 3))

    def test_list_order_is_that_of_pairs(self):
        # Signs on the tiles 1 and 2 would do as well, but only c on tile 1 and b on tile 2.
        plan = (
            "corridor 4; signs a b c; moods m n; robot 0 right; when m a leave b on n; "
            "when n a leave b on n; when n b leave a on m; when n c leave c on n;"
        )
        self.assertTrue(sweeps_all(plan + "put c 1; put b 2;"))
        self.assertEqual([(1, "b"), (3, "b")], self.signs(plan, 3))

    def test_the_smallest_tile_comes_first(self):
        # A sign under one of the two robots is enough.
        plan = (
            "corridor 3; signs no red blue; moods wait go; robot 2 left; robot 1 left; "
            "when wait red leave no on go; when wait blue leave no on go; when go no leave no on go;"
        )
        self.assertEqual([(1, "red")], self.signs(plan, 1))
        self.assertTrue(sweeps_all(plan + "put red 2;"))

    def test_invalid_limits(self):
        for limit in NO_LIMITS:
            with self.subTest(limit=limit):
                self.assertRaises(InvalidNumber, fewest_signs, SWEEP, limit)

    def test_new_lists(self):
        for _ in range(2):
            result = fewest_signs(red_plan(2), 2)
            self.assertEqual([(0, "red"), (1, "red")], result[0])
            self.assertIs(tuple, type(result))
            self.assertTrue(all(type(pair) is tuple for pair in result[0]))
            result[0].clear()

    def test_the_order_of_errors(self):
        self.assertRaises(SyntaxFault, fewest_signs, SYNTAX_WRONG, 4)
        self.assertRaises(CheckFault, fewest_signs, CHECK_WRONG, 4)
        self.assertRaises(InvalidNumber, fewest_signs, TOO_LONG_BARE, 4)
        self.assertRaises(SyntaxFault, fewest_signs, None, 0)


class FewestTooLongTest(unittest.TestCase):

    def test_at_once(self):
        for limit in range(4):
            self.assertRaises(TooLong, fewest_signs, TOO_LONG_BARE, limit)

    def test_before_an_answer(self):
        plan = CHOICE.replace("zero one two end;", "zero end one two;", 1)
        self.assertIsNone(fewest_signs(plan, 0))
        self.assertTrue(sweeps_all(plan + "put one 1;"))
        self.assertRaises(TooLong, find_cycle, plan + "put end 1;")
        self.assertRaises(TooLong, fewest_signs, plan, 1)

    def test_behind_an_answer_of_the_same_length(self):
        self.assertIsNone(fewest_signs(CHOICE, 0))
        self.assertRaises(TooLong, find_cycle, CHOICE + "put end 1;")
        for limit in [1, 2, 3]:
            self.assertEqual([(1, "one")], fewest_signs(CHOICE, limit)[0])

    def test_behind_a_shorter_answer(self):
        self.assertRaises(TooLong, find_cycle, WALKER + "put end 15;")
        for limit in range(4):
            self.assertEqual(([], format_plan(WALKER)), fewest_signs(WALKER, limit))

    def test_without_an_answer(self):
        plan = counter(16, "1 right", "add keep", "0" * 14)
        bare = re.sub("put [a-z]+ [0-9]+;", "", plan)
        self.assertIsNone(fewest_signs(bare, 0))
        self.assertRaises(TooLong, fewest_signs, bare, 1)

    def test_beyond_the_limit(self):
        plan = CHOICE.replace("when wait one leave zero on walk;", "")
        self.assertIsNone(fewest_signs(plan, 0))
        self.assertRaises(TooLong, fewest_signs, plan, 1)

    def test_the_plan_itself(self):
        # Point [6] holds for all functions, though other signs than those of the plan are tried.
        self.assertRaises(TooLong, fewest_signs, WALKER + "put end 15;", 0)
        self.assertRaises(TooLong, fewest_signs, TOO_LONG, 0)


class StartTest(unittest.TestCase):

    def test_some_starts(self):
        # It stays on the sign no for ever, unless it began on the sign stop.
        plan = (
            "corridor 3; signs no stop; moods go come; robot 1 right; put stop 2; when go no leave no stay go; "
            "when go stop leave no back come; when come no leave no on come;"
        )
        self.assertEqual([(2, "left"), (2, "right")], good_starts(plan))

    def test_left_and_right_differ(self):
        # It stays for ever if it turns at an end of the corridor in the first tick.
        plan = (
            "corridor 3; signs no stop; moods go come far; robot 1 right; when go no leave stop on come; "
            "when come stop leave stop stay come; when come no leave no on far; "
            "when far no leave no on far; when far stop leave no on far;"
        )
        self.assertEqual([(0, "right"), (1, "left"), (1, "right"), (2, "left")], good_starts(plan))

    def test_none(self):
        self.assertEqual([], good_starts("corridor 2; signs no; moods go; robot 0 right;"))
        self.assertEqual([], good_starts(red_plan(3, "put red 0; put red 1; ")))

    def test_only_robot_0_changes(self):
        plan = "corridor 2; signs no; moods go; robot 0 left; robot 1 right;"
        self.assertEqual([(0, "left"), (0, "right")], good_starts(plan))
        plan = "corridor 3; signs no; moods go; robot 0 left; robot 0 right; robot 2 right;"
        self.assertEqual([(1, "left"), (1, "right")], good_starts(plan))
        plan = "corridor 3; signs no; moods go; robot 0 left; robot 2 right; robot 2 right;"
        self.assertEqual([], good_starts(plan))

    def test_all_else_is_equal(self):
        self.assertEqual(6, len(good_starts(red_plan(3, "put red 0; put red 1; put red 2; "))))
        # The robots keep their order: the later one meets what robot 0 has left.
        plan = "corridor 2; signs a b; moods m n; robot 0 left; robot 0 left; put b 1; when m a leave b stay m; "
        plan += "when m b leave a on n; when n a leave a on n;"
        self.assertEqual(good_of_all(plan), good_starts(plan))

    def test_too_long(self):
        self.assertRaises(TooLong, good_starts, TOO_LONG_BARE)
        plan = counter(16, "0 left", "add keep", "0" * 14)
        # The plan itself rests at once, and from tile 1 it counts very long.
        self.assertEqual((0, 1), find_cycle(plan))
        self.assertRaises(TooLong, good_starts, plan)

    def test_one_start_that_is_too_long(self):
        # Robot 0 counts very long if it turns at the end on which the sign end lies, else it rests early.
        plan = "corridor 16; signs zero one two end; moods begin look add keep; robot 3 left; "
        plan += "when begin end leave end on look; when look end leave end on add; " + COUNTING
        self.assertEqual([], good_starts(plan))
        for tile, long, short in [(0, "left", "right"), (15, "right", "left")]:
            ended = plan + f"put end {tile};"
            self.assertEqual((0, 1), find_cycle(ended))
            self.assertEqual((1, 1), find_cycle(ended.replace("3 left", f"{tile} {short}")))
            self.assertRaises(TooLong, find_cycle, ended.replace("3 left", f"{tile} {long}"))
            self.assertRaises(TooLong, good_starts, ended)

    def test_new_lists(self):
        for _ in range(2):
            result = good_starts(SWEEP)
            self.assertEqual(6, len(result))
            self.assertIs(list, type(result))
            result.clear()

    def test_errors(self):
        self.assertRaises(SyntaxFault, good_starts, SYNTAX_WRONG)
        self.assertRaises(CheckFault, good_starts, CHECK_WRONG)
        for plan in [None, False, 3, [SWEEP], (SWEEP,)]:
            self.assertRaises(SyntaxFault, good_starts, plan)


class TryingTest(unittest.TestCase):
    """Random plans, compared with trying all."""

    def test_fewest_signs(self):
        chance = random.Random(11)
        lengths = []
        for _ in range(250):
            plan = random_plan(chance, (1, 2, 3, 4), 3)
            for limit in [chance.randrange(4), 3]:
                with self.subTest(plan, limit=limit):
                    expected = result_of(fewest_of_all, plan, limit)
                    self.assertEqual(expected, result_of(fewest_signs, plan, limit))
            if expected is not None:
                lengths.append(len(expected[0]))
        self.assertEqual({0, 1, 2, 3}, set(lengths))

    def test_good_starts(self):
        chance = random.Random(13)
        counts = []
        for _ in range(250):
            plan = random_plan(chance, (1, 2, 3, 5))
            with self.subTest(plan):
                expected = result_of(good_of_all, plan)
                self.assertEqual(expected, result_of(good_starts, plan))
                counts.append(len(expected))
        self.assertIn(0, counts)
        self.assertLess(4, len(set(counts)))


if __name__ == "__main__":
    unittest.main()
