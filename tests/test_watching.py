"""Watchers: what the signs on one tile tell of the start of robot 0."""

import itertools
import random
import unittest

from sweeprota.errors import CheckFault, Contradiction, InvalidNumber, InvalidTick, SyntaxFault, TooLong, UnknownSign
from sweeprota.machine import find_cycle, signs_on
from sweeprota.watching import Watcher
from tests.helpers import (
    CHECK_WRONG, NO_NUMBERS, SWEEP, SYNTAX_WRONG, TOO_LONG_BARE, TOO_LONG_START, counter, random_plan, ring,
)
from tests.model import Model, Walk, starts_in, with_start
from tests.test_ticks import NO_TICKS

LAST = 10 ** 18
NO_SIGNS = ["go", "blue", "", "n", "no ", "No", True, False, None, 0, 1, LAST, ("no",), (), ["no"], []]
THREE = (
    "corridor 3; signs a b c; moods m n; robot 0 left; robot 2 left; robot 0 right; put b 2; put c 0; "
    "when m a leave b on m; when m b leave c stay n; when n a leave c back m; when n b leave a on n;"
)


class Starts:
    """A simple watcher: the starts that remain, by walking from each of them."""

    def __init__(self, text, tile, count):
        model = Model(text)
        self.names = model.sign_names
        self.rows = {
            start: [signs[tile] for signs in Walk(with_start(text, start), count).signs]
            for start in starts_in(model.size)
        }

    def agreeing(self, tick, sign):
        return {start: row for start, row in self.rows.items() if row[tick] == sign}

    def possible(self, tick):
        found = [row[tick] for row in self.rows.values()]
        return [name for name in self.names if name in found]


def told(watcher, ticks=range(8)):
    """All that a watcher tells."""
    return watcher.starts, watcher.history, [watcher.possible(tick) for tick in ticks]


class WatcherCase(unittest.TestCase):

    def assert_refused(self, error, watcher, name, *arguments):
        before = told(watcher)
        self.assertRaises(error, getattr(watcher, name), *arguments)
        self.assertEqual(before, told(watcher), arguments)


class BeginningTest(WatcherCase):

    def test_all_starts(self):
        for size in [1, 2, 3, 16]:
            watcher = Watcher(f"corridor {size}; signs a; moods m; robot 0 right;", size - 1)
            self.assertEqual(starts_in(size), watcher.starts)
            self.assertEqual([], watcher.history)
            self.assertEqual(["a"], watcher.possible(0))
            self.assertEqual(2 * size, watcher.see(0, "a"))

    def test_the_start_in_the_plan_does_not_matter(self):
        for plan in [SWEEP, THREE]:
            for start in starts_in(3):
                one, two = Watcher(plan, 1), Watcher(with_start(plan, start), 1)
                self.assertEqual(told(one), told(two))
                for tick in range(4):
                    sign = one.possible(tick)[-1]
                    self.assertEqual(one.see(tick, sign), two.see(tick, sign))
                    self.assertEqual(told(one), told(two))

    def test_only_robot_0_is_unknown(self):
        # Robot 1 leaves the sign red on tile 2 in tick 0, wherever robot 0 is.
        plan = SWEEP + "robot 2 left;"
        watcher = Watcher(plan, 2)
        # With robot 0 on the same tile, robot 1 finds red there, and leaves no.
        self.assertEqual(["no", "red"], watcher.possible(0))
        self.assertEqual(2, watcher.see(0, "no"))
        self.assertEqual([(2, "left"), (2, "right")], watcher.starts)

    def test_the_order_of_the_robots(self):
        rules = "when m a leave b stay n; when m b leave c stay n;"
        plan = f"corridor 2; signs a b c; moods m n; robot 0 left; robot 1 left; {rules}"
        watcher = Watcher(plan, 1)
        self.assertEqual(["b", "c"], watcher.possible(0))
        self.assertEqual(2, watcher.see(0, "c"))
        self.assertEqual([(1, "left"), (1, "right")], watcher.starts)
        self.assertEqual(["c"], watcher.possible(5))

    def test_signs_after_and_not_before_a_tick(self):
        # No start leaves the sign that the plan puts there.
        plan = "corridor 1; signs a b c; moods m; robot 0 left; put b 0; when m b leave c on m; when m c leave a on m;"
        watcher = Watcher(plan, 0)
        self.assertEqual([["c"], ["a"], ["a"]], [watcher.possible(tick) for tick in [0, 1, LAST]])
        self.assert_refused(Contradiction, watcher, "see", 0, "b")
        self.assertEqual(2, watcher.see_from(0, "c", "a", "a"))


class SeeTest(WatcherCase):

    def test_one_start_remains(self):
        for start in starts_in(3):
            rows = Walk(with_start(SWEEP, start), 12).signs
            watcher = Watcher(SWEEP, 0)
            for tick in range(12):
                count = watcher.see(tick, rows[tick][0])
            self.assertEqual(1, count)
            self.assertEqual([start], watcher.starts)

    def test_several_starts_remain(self):
        watcher = Watcher(SWEEP, 0)
        self.assertEqual(4, watcher.see(0, "no"))
        self.assertEqual([(1, "left"), (1, "right"), (2, "left"), (2, "right")], watcher.starts)
        self.assertEqual(3, watcher.see(1, "no"))
        self.assertEqual([(1, "right"), (2, "left"), (2, "right")], watcher.starts)
        self.assertEqual([(0, "no"), (1, "no")], watcher.history)

    def test_no_start_remains(self):
        watcher = Watcher(SWEEP, 0)
        watcher.see(0, "red")
        for tick, sign in [(0, "no"), (6, "no"), (12, "no")]:
            self.assert_refused(Contradiction, watcher, "see", tick, sign)
            self.assertEqual(([(0, "left"), (0, "right")], [(0, "red")]), told(watcher)[:2])
        self.assertEqual(1, watcher.see(1, "no"))
        self.assertEqual([(0, "left")], watcher.starts)
        self.assert_refused(Contradiction, watcher, "see", 1, "red")
        self.assertEqual([(0, "red"), (1, "no")], watcher.history)

    def test_long_after_the_first_cycle(self):
        # Each cycle has 6 ticks, and 10 ** 18 is 4 more than a multiple of 6.
        for early, late in [(0, 6 * 10 ** 17), (4, LAST), (3, LAST - 1), (5, 5 + 6 * 10 ** 9)]:
            signs = Watcher(SWEEP, 1).possible(early)
            self.assertEqual(signs, Watcher(SWEEP, 1).possible(late))
            for sign in signs:
                one, two = Watcher(SWEEP, 1), Watcher(SWEEP, 1)
                self.assertEqual(one.see(early, sign), two.see(late, sign))
                self.assertEqual(one.starts, two.starts)
                self.assertEqual([(late, sign)], two.history)

    def test_cycles_that_begin_late_and_differ(self):
        plan = ring("12001")
        starts = starts_in(16)
        for tick in [0, 200, 19700, LAST]:
            watcher = Watcher(plan, 8)
            texts = {start: signs_on(with_start(plan, start), tick)[8] for start in starts}
            self.assertEqual(set(texts.values()), set(watcher.possible(tick)))
            sign = texts[9, "left"]
            agreeing = [start for start in starts if texts[start] == sign]
            self.assertEqual(len(agreeing), watcher.see(tick, sign))
            self.assertEqual(agreeing, watcher.starts)

    def test_the_same_tick_twice(self):
        watcher = Watcher(SWEEP, 0)
        for _ in range(2):
            self.assertEqual(2, watcher.see(0, "red"))
        self.assertEqual([(0, "red"), (0, "red")], watcher.history)
        self.assert_refused(Contradiction, watcher, "see", 0, "no")

    def test_any_order_of_ticks(self):
        seen = [(0, "no"), (1, "no"), (3, "no"), (LAST, "red")]
        for order in itertools.permutations(seen):
            watcher = Watcher(SWEEP, 0)
            counts = [watcher.see(tick, sign) for tick, sign in order]
            self.assertEqual(sorted(counts, reverse=True), counts)
            self.assertEqual(([(1, "right")], list(order)), (watcher.starts, watcher.history))

    def test_invalid_ticks(self):
        watcher = Watcher(SWEEP, 0)
        for tick in NO_TICKS:
            with self.subTest(tick=tick):
                self.assert_refused(InvalidTick, watcher, "see", tick, "red")
                self.assert_refused(InvalidTick, watcher, "see_from", tick)
                self.assert_refused(InvalidTick, watcher, "see_from", tick, "red", "no")
                self.assertRaises(InvalidTick, watcher.possible, tick)

    def test_unknown_signs(self):
        watcher = Watcher(SWEEP, 0)
        for sign in NO_SIGNS:
            with self.subTest(sign=sign):
                self.assert_refused(UnknownSign, watcher, "see", 0, sign)
                self.assert_refused(UnknownSign, watcher, "see_from", 0, sign)
                self.assert_refused(UnknownSign, watcher, "see_from", 0, "red", sign, "no")

    def test_the_order_of_errors(self):
        watcher = Watcher(SWEEP, 0)
        watcher.see(0, "red")
        self.assert_refused(InvalidTick, watcher, "see", -1, "blue")
        self.assert_refused(UnknownSign, watcher, "see", 0, "blue")
        self.assert_refused(Contradiction, watcher, "see", 0, "no")
        self.assert_refused(InvalidTick, watcher, "see_from", LAST + 1, "blue", "no")

    def test_a_name_that_is_a_sign_and_a_mood(self):
        plan = "corridor 1; signs a m; moods m n; robot 0 left; when m a leave m stay n;"
        watcher = Watcher(plan, 0)
        self.assertEqual(2, watcher.see(0, "m"))
        self.assert_refused(UnknownSign, watcher, "see", 0, "n")


class SeeFromTest(WatcherCase):

    def test_no_sign(self):
        watcher = Watcher(SWEEP, 0)
        for first, count in [(0, 6), (LAST, 6)]:
            self.assertEqual(count, watcher.see_from(first))
            self.assertEqual([], watcher.history)
        watcher.see(0, "red")
        self.assertEqual(2, watcher.see_from(7))
        self.assertEqual([(0, "red")], watcher.history)

    def test_one_sign(self):
        for tick in [0, 5, LAST]:
            one, two = Watcher(SWEEP, 0), Watcher(SWEEP, 0)
            self.assertEqual(one.see(tick, "no"), two.see_from(tick, "no"))
            self.assertEqual(told(one), told(two))

    def test_many_signs(self):
        rows = Walk(with_start(SWEEP, (1, "left")), 1000).signs
        watcher = Watcher(SWEEP, 2)
        self.assertEqual(1, watcher.see_from(3, *[signs[2] for signs in rows[3:]]))
        self.assertEqual([(1, "left")], watcher.starts)
        self.assertEqual([(tick, rows[tick][2]) for tick in range(3, 1000)], watcher.history)

    def test_one_by_one_and_together(self):
        chance = random.Random(31)
        for _ in range(60):
            plan = random_plan(chance)
            tile = chance.randrange(Model(plan).size)
            first = chance.choice([0, 1, 5, 100, LAST - 20])
            one, two = Watcher(plan, tile), Watcher(plan, tile)
            with self.subTest(plan, tile=tile, first=first):
                signs = []
                for tick in range(first, first + chance.randint(1, 12)):
                    signs.append(chance.choice(one.possible(tick)))
                    count = one.see(tick, signs[-1])
                self.assertEqual(count, two.see_from(first, *signs))
                self.assertEqual(told(one), told(two))

    def test_a_sign_is_refused_in_the_middle(self):
        for error, sign in [(UnknownSign, "go"), (UnknownSign, None), (Contradiction, "red")]:
            for behind in [[], ["no"], ["blue"], [None, "no"], ["red", "red"]]:
                watcher = Watcher(SWEEP, 0)
                watcher.see(0, "red")
                self.assert_refused(error, watcher, "see_from", 0, "red", "no", sign, *behind)
                self.assertEqual(2, watcher.see_from(0, "red"))

    def test_the_first_one_that_is_refused(self):
        watcher = Watcher(SWEEP, 0)
        # No start leaves red, no and red on tile 0 after the ticks 0 to 2.
        self.assert_refused(Contradiction, watcher, "see_from", 0, "red", "no", "red", "blue")
        self.assert_refused(UnknownSign, watcher, "see_from", 0, "red", "blue", "red")
        self.assert_refused(Contradiction, watcher, "see_from", 6, "red", "no", "red", None)
        self.assertEqual(6, watcher.see_from(0))

    def test_contradictions_among_the_signs_only(self):
        # Each sign alone would be possible.
        plan = "corridor 1; signs a b; moods m; robot 0 left; robot 0 left; when m a leave b on m;"
        watcher = Watcher(plan, 0)
        self.assert_refused(Contradiction, watcher, "see_from", 0, "b", "a")
        watcher = Watcher(SWEEP, 0)
        for tick, sign in enumerate(["red", "no", "red"]):
            self.assertIn(sign, watcher.possible(tick))
        self.assert_refused(Contradiction, watcher, "see_from", 0, "red", "no", "red")

    def test_across_the_last_tick(self):
        watcher = Watcher(SWEEP, 0)
        one, two = [signs[0] for signs in Walk(SWEEP, 6).signs[3:5]]
        self.assert_refused(InvalidTick, watcher, "see_from", LAST, two, two)
        self.assert_refused(InvalidTick, watcher, "see_from", LAST, two, "blue")
        self.assert_refused(InvalidTick, watcher, "see_from", LAST - 1, one, two, None)
        self.assert_refused(UnknownSign, watcher, "see_from", LAST, "blue", two)
        self.assert_refused(UnknownSign, watcher, "see_from", LAST - 1, one, "go", one, one)
        watcher.see(LAST, two)
        other = "no" if two == "red" else "red"
        self.assert_refused(Contradiction, watcher, "see_from", LAST, other, two)
        self.assertGreater(watcher.see_from(LAST - 1, one, two), 0)
        self.assertEqual([(LAST, two), (LAST - 1, one), (LAST, two)], watcher.history)


class PossibleTest(WatcherCase):

    def test_the_order_of_the_plan(self):
        # From tile 0 the robot leaves b there, and from another tile a remains.
        for signs, expected in [("a b", ["a", "b"]), ("b a", ["b", "a"]), ("c b d a", ["b", "a"])]:
            plan = f"corridor 2; signs {signs}; moods m; robot 0 left; put a 0; when m a leave b stay m;"
            self.assertEqual(expected, Watcher(plan, 0).possible(0))

    def test_after_observations(self):
        watcher = Watcher(SWEEP, 0)
        self.assertEqual(["no", "red"], watcher.possible(1))
        watcher.see(0, "no")
        self.assertEqual(["no"], watcher.possible(0))
        self.assertEqual(["no", "red"], watcher.possible(1))
        watcher.see(1, "red")
        self.assertEqual([(1, "left")], watcher.starts)
        rows = Walk(with_start(SWEEP, (1, "left")), 20).signs
        self.assertEqual([[signs[0]] for signs in rows], [watcher.possible(tick) for tick in range(20)])

    def test_it_is_no_observation(self):
        watcher = Watcher(SWEEP, 0)
        for tick in [0, 3, LAST, 3]:
            watcher.possible(tick)
        self.assertEqual((starts_in(3), []), told(watcher)[:2])


class WalkingTest(WatcherCase):
    """Random plans with one to three robots, compared with walking from all starts."""

    def test_random_observations(self):
        chance = random.Random(37)
        counts = []
        for _ in range(200):
            plan = random_plan(chance)
            tile = chance.randrange(Model(plan).size)
            with self.subTest(plan, tile=tile):
                counts.append(self.check(chance, plan, tile))
        self.assertIn(1, counts)
        self.assertLess(4, len(set(counts)))

    def check(self, chance, plan, tile):
        watcher = Watcher(plan, tile)
        starts = Starts(plan, tile, 60)
        history = []
        for _ in range(12):
            tick = chance.randrange(60)
            sign = chance.choice(starts.names)
            self.assertEqual(starts.possible(tick), watcher.possible(tick))
            agreeing = starts.agreeing(tick, sign)
            if agreeing:
                self.assertEqual(len(agreeing), watcher.see(tick, sign))
                starts.rows = agreeing
                history.append((tick, sign))
            else:
                self.assertRaises(Contradiction, watcher.see, tick, sign)
            self.assertEqual((list(starts.rows), history), (watcher.starts, watcher.history))
        return len(starts.rows)


class ListsTest(WatcherCase):

    def test_new_lists(self):
        watcher = Watcher(SWEEP, 0)
        watcher.see_from(0, "no", "no")
        for _ in range(2):
            self.assertEqual([(1, "right"), (2, "left"), (2, "right")], watcher.starts)
            self.assertEqual([(0, "no"), (1, "no")], watcher.history)
            self.assertEqual(["no", "red"], watcher.possible(2))
            for result in [watcher.starts, watcher.history, watcher.possible(2)]:
                self.assertIs(list, type(result))
                result.clear()
        self.assertTrue(all(type(pair) is tuple for pair in watcher.starts + watcher.history))
        self.assertEqual(3, watcher.see(0, "no"))

    def test_two_watchers(self):
        one, two, other = Watcher(SWEEP, 0), Watcher(SWEEP, 0), Watcher(SWEEP, 2)
        one.see(0, "red")
        self.assertEqual((starts_in(3), []), told(two)[:2])
        self.assertEqual(2, other.see(0, "red"))
        self.assertEqual(4, two.see(0, "no"))
        self.assertEqual([[(0, "left"), (0, "right")], [(2, "left"), (2, "right")]], [one.starts, other.starts])
        self.assertEqual([[(0, "red")], [(0, "no")]], [one.history, two.history])


class CreationTest(WatcherCase):

    def test_invalid_tiles(self):
        for tile in [-1, 3, 16, LAST] + NO_NUMBERS:
            with self.subTest(tile=tile):
                self.assertRaises(InvalidNumber, Watcher, SWEEP, tile)
        for tile in range(3):
            self.assertEqual(6, Watcher(SWEEP, tile).see_from(0))

    def test_wrong_plans(self):
        for plan in [None, True, 0, "", "corridor", [SWEEP], (SWEEP,)]:
            self.assertRaises(SyntaxFault, Watcher, plan, 0)
        self.assertRaises(CheckFault, Watcher, CHECK_WRONG, 0)

    def test_too_long(self):
        self.assertRaises(TooLong, Watcher, TOO_LONG_BARE, 0)
        # The plan itself rests at once, and only from one other start it is too long.
        self.assertEqual((0, 1), find_cycle(TOO_LONG_START))
        for start in starts_in(16):
            text = with_start(TOO_LONG_START, start)
            if start == (0, "left"):
                self.assertRaises(TooLong, find_cycle, text)
            else:
                self.assertGreater(10, sum(find_cycle(text)))
            self.assertRaises(TooLong, Watcher, text, 15)

    def test_the_last_tick_that_may_repeat(self):
        # Only from tile 0, to the left, the robot turns at the end and counts; then it rests.
        plan = counter(14, "5 left", "begin look more add keep", "11021222122") + "when begin end leave end on look;"
        early = plan + "when look end leave end on add;"
        late = plan + "when look end leave end stay more; when more end leave end on add;"
        self.assertEqual((19999, 1), find_cycle(with_start(early, (0, "left"))))
        self.assertEqual((20000, 1), Model(with_start(late, (0, "left"))).cycle(20001))
        watcher = Watcher(early, 11)
        self.assertEqual(28, watcher.see_from(0))
        self.assertEqual(["zero", "two"], watcher.possible(LAST))
        self.assertEqual(1, watcher.see(LAST, "zero"))
        self.assertEqual([(0, "left")], watcher.starts)
        self.assertRaises(TooLong, Watcher, late, 11)

    def test_the_order_of_errors(self):
        self.assertRaises(SyntaxFault, Watcher, SYNTAX_WRONG, -1)
        self.assertRaises(CheckFault, Watcher, CHECK_WRONG, -1)
        self.assertRaises(InvalidNumber, Watcher, TOO_LONG_BARE, 16)
        self.assertRaises(InvalidNumber, Watcher, TOO_LONG_BARE, None)
        self.assertRaises(TooLong, Watcher, TOO_LONG_BARE, 15)


if __name__ == "__main__":
    unittest.main()
