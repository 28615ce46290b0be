"""Which tiles are swept, how often and when."""

import random
import unittest

from sweeprota.errors import CheckFault, InvalidNumber, InvalidTick, SyntaxFault, TooLong
from sweeprota.machine import find_cycle, trace
from sweeprota.sweeping import count_swept, longest_wait, never_swept, next_swept, rest_tick, swept_for_ever
from tests.helpers import CHECK_WRONG, SWEEP, SYNTAX_WRONG, TOO_LONG_BARE, random_plan
from tests.model import Model, Walk
from tests.test_ticks import NO_TICKS

FAR = 10 ** 18
# It sweeps the tiles 0, 1, 2, 3, 3, 2, 3, 2, 3 ..; its cycle begins with tick 5 and has 2 ticks.
LATER = (
    "corridor 4; signs a b; moods m n; robot 0 right; "
    "when m a leave b on m; when m b leave b on n; when n b leave b back n;"
)
# Two robots sweep tile 0 in tick 0, and then tile 1 for ever.
PAIR = (
    "corridor 3; signs a; moods m n; robot 0 right; robot 0 right; "
    "when m a leave a on n; when n a leave a stay n;"
)
# The robot goes to the end and back, and then rests: 0, 1, 2, 2, 1, 0, 0, 0 ..
RETURN = (
    "corridor 3; signs a b c; moods m; robot 0 right; when m a leave b on m; when m b leave c on m;"
)
# The robots 1 and 2 go to and fro, robot 0 rests.
OTHERS = (
    "corridor 3; signs a b; moods m; robot 0 right; robot 1 right; robot 2 left; put b 0; "
    "when m a leave a back m;"
)
# Robot 0 rests until robot 1 has left another sign on its tile.
WOKEN = (
    "corridor 3; signs a b; moods m n; robot 0 right; robot 1 left; put b 0; "
    "when m a leave a on n; when n b leave a on m;"
)
ON_PLANS = [rest_tick, swept_for_ever, never_swept, longest_wait]
ON_TILES = [count_swept, next_swept]


def one_robot(size, start, *rules):
    return f"corridor {size}; signs a b; moods m n; robot {start}; " + " ".join(rules)


class RestTest(unittest.TestCase):

    def test_from_a_tick_on(self):
        self.assertEqual(3, rest_tick(
            "corridor 3; signs no red; moods go; robot 0 right; when go no leave red on go;"))
        self.assertEqual(6, rest_tick(RETURN))
        self.assertEqual(1, rest_tick(one_robot(2, "0 left", "when m a leave b stay m;")))

    def test_from_the_first_tick_on(self):
        self.assertEqual(0, rest_tick("corridor 1; signs a; moods m; robot 0 left;"))
        self.assertEqual(0, rest_tick(one_robot(2, "0 left", "when n a leave a on m;", "when m b leave a on m;")))

    def test_never(self):
        self.assertIsNone(rest_tick(SWEEP))
        self.assertIsNone(rest_tick(LATER))

    def test_to_change_nothing_is_not_to_rest(self):
        for move, start in [("stay", "0 left"), ("back", "0 right")]:
            plan = one_robot(2, start, f"when m a leave a {move} m;")
            self.assertEqual((0, 1), find_cycle(plan))
            self.assertIsNone(rest_tick(plan))

    def test_one_robot_rests_and_another_goes_on(self):
        self.assertIsNone(rest_tick(OTHERS))
        self.assertIsNone(rest_tick(OTHERS.replace("back", "stay")))
        # The other way round: the last robot rests, the first one does not.
        plan = "corridor 2; signs a b; moods m; robot 0 left; robot 1 left; put b 1; when m a leave a stay m;"
        self.assertIsNone(rest_tick(plan))

    def test_a_resting_robot_goes_on_later(self):
        self.assertEqual([
            (0, 0, 0, "rest"), (0, 1, 1, "on"), (1, 0, 0, "rest"), (1, 1, 0, "on"),
            (2, 0, 0, "on"), (2, 1, 0, "on"), (3, 0, 1, "rest"), (3, 1, 1, "rest"),
        ], list(trace(WOKEN, 0, 3)))
        self.assertEqual(3, rest_tick(WOKEN))
        self.assertIsNone(rest_tick(WOKEN + "when n a leave a on n;"))

    def test_one_robot_rests_before_the_other_one(self):
        plan = "corridor 2; signs a b; moods m n; robot 0 left; robot 1 left; put b 1; when m a leave b on n;"
        self.assertEqual(1, rest_tick(plan))


class SweptTest(unittest.TestCase):

    def test_all(self):
        self.assertEqual([0, 1, 2], swept_for_ever(SWEEP))
        self.assertEqual([], never_swept(SWEEP))

    def test_a_robot_that_stays(self):
        plan = "corridor 3; signs no; moods go; robot 1 right; when go no leave no stay go;"
        self.assertEqual([0, 2], never_swept(plan))
        self.assertEqual([1], swept_for_ever(plan))

    def test_before_the_cycle_only(self):
        self.assertEqual([2, 3], swept_for_ever(LATER))
        self.assertEqual([], never_swept(LATER))

    def test_never(self):
        plan = LATER.replace("corridor 4", "corridor 6").replace("robot 0", "robot 2")
        self.assertEqual((5, 2), find_cycle(plan))
        self.assertEqual([4, 5], swept_for_ever(plan))
        self.assertEqual([0, 1], never_swept(plan))

    def test_a_robot_that_rests_sweeps(self):
        self.assertEqual([0], swept_for_ever(RETURN))
        self.assertEqual([1], swept_for_ever("corridor 3; signs a; moods m; robot 1 left;"))
        self.assertEqual([0, 2], never_swept("corridor 3; signs a; moods m; robot 1 left;"))

    def test_all_robots_count(self):
        plan = "corridor 6; signs a; moods m; robot 4 left; robot 1 left; robot 2 right;"
        self.assertEqual([1, 2, 4], swept_for_ever(plan))
        self.assertEqual([0, 3, 5], never_swept(plan))

    def test_a_tile_that_is_reached_in_the_last_tick_is_not_swept_yet(self):
        # It reaches tile 1 after tick 0, and sweeps it in tick 1 for the first time.
        self.assertEqual([0, 1], [next_swept(PAIR, tile, 0) for tile in (0, 1)])

    def test_new_lists(self):
        for call in [swept_for_ever, never_swept]:
            result = call(PAIR)
            copy = list(result)
            self.assertIs(list, type(result))
            result.append(9)
            self.assertEqual(copy, call(PAIR))


class CountTest(unittest.TestCase):

    def counts(self, plan, tile, *ticks):
        return [count_swept(plan, tile, number) for number in ticks]

    def test_before_at_and_after_the_beginning_of_the_cycle(self):
        ticks = [0, 1, 2, 3, 4, 5, 6, 7, 8, 9]
        self.assertEqual([0, 1, 1, 1, 1, 1, 1, 1, 1, 1], self.counts(LATER, 0, *ticks))
        self.assertEqual([0, 0, 0, 1, 1, 1, 2, 2, 3, 3], self.counts(LATER, 2, *ticks))
        self.assertEqual([0, 0, 0, 0, 1, 2, 2, 3, 3, 4], self.counts(LATER, 3, *ticks))

    def test_many_ticks(self):
        # Tick FAR - 1 is odd: tile 2 is swept in it. The tiles 0 and 1 are swept once each.
        self.assertEqual([1, 1], self.counts(LATER, 1, FAR - 1, FAR))
        self.assertEqual([FAR // 2 - 2, FAR // 2 - 1], self.counts(LATER, 2, FAR - 1, FAR))
        self.assertEqual([FAR // 2 - 1, FAR // 2 - 1], self.counts(LATER, 3, FAR - 1, FAR))
        self.assertEqual(0, count_swept("corridor 2; signs a; moods m; robot 0 left;", 1, FAR))
        self.assertEqual(FAR, count_swept("corridor 2; signs a; moods m; robot 0 left;", 0, FAR))

    def test_several_robots_on_one_tile(self):
        self.assertEqual([0, 2, 2, 2, 2], self.counts(PAIR, 0, 0, 1, 2, 3, FAR))
        self.assertEqual([0, 0, 2, 4, 2 * FAR - 2], self.counts(PAIR, 1, 0, 1, 2, 3, FAR))
        three = PAIR.replace("robot 0 right; ", "robot 0 right; robot 0 left; ", 1).replace("signs a", "signs a b")
        self.assertEqual([0, 3, 4, 3 + (FAR - 1)], self.counts(three, 0, 0, 1, 2, FAR))


class NextTest(unittest.TestCase):

    def test_from_a_sweep_and_from_the_tick_after_it(self):
        self.assertEqual([0, None], [next_swept(LATER, 0, tick) for tick in (0, 1)])
        self.assertEqual([2, 5, 5, 5, 7, 7, 9], [next_swept(LATER, 2, tick) for tick in (2, 3, 4, 5, 6, 7, 8)])
        self.assertEqual([3, 3, 4, 6, 6, 8], [next_swept(LATER, 3, tick) for tick in (0, 3, 4, 5, 6, 7)])

    def test_none(self):
        for tick in [2, 4, 5, 6, 100, FAR]:
            self.assertIsNone(next_swept(LATER, 0, tick))
            self.assertIsNone(next_swept(LATER, 1, tick))
        for tick in [0, 1, FAR]:
            self.assertIsNone(next_swept(PAIR, 2, tick))

    def test_greater_ticks(self):
        self.assertEqual(FAR, next_swept(LATER, 3, FAR))
        self.assertEqual(FAR + 1, next_swept(LATER, 2, FAR))
        # FAR is 4 more than a multiple of 6, and tile 2 is swept in the ticks 2 and 3 of six.
        self.assertEqual(FAR + 4, next_swept(SWEEP, 2, FAR))
        self.assertEqual(FAR - 1, next_swept(SWEEP, 2, FAR - 1))


class WaitTest(unittest.TestCase):

    def test_before_the_cycle(self):
        self.assertEqual((6, 1), find_cycle(RETURN))
        self.assertEqual((5, 0, 0), longest_wait(RETURN))

    def test_into_the_cycle(self):
        self.assertEqual((3, 2, 2), longest_wait(LATER))

    def test_across_the_end_of_the_cycle(self):
        plan = SWEEP.replace("0 right", "0 left")
        self.assertEqual((0, 6), find_cycle(plan))
        self.assertEqual((5, 0, 1), longest_wait(plan))

    def test_the_smallest_tile(self):
        # Tile 2 waits from tick 0 to 5, tile 0 from 3 to 8, both for the first time.
        self.assertEqual((5, 0, 3), longest_wait(SWEEP.replace("0 right", "2 left")))

    def test_the_first_tick(self):
        rest = "corridor 4; signs a; moods m; robot 2 left; robot 3 left;"
        self.assertEqual((1, 2, 0), longest_wait(rest))
        # Tile 0 waits from tick 0 to 2, 2 to 4 and so on.
        plan = one_robot(2, "0 right", "when m a leave a on n;", "when n a leave a back n;")
        self.assertEqual((2, 0, 0), longest_wait(plan))

    def test_a_tile_that_is_swept_in_one_tick_only(self):
        self.assertEqual((1, 1, 1), longest_wait(PAIR))
        plan = one_robot(3, "0 right", "when m a leave a on n;")
        self.assertEqual((1, 1, 1), longest_wait(plan))

    def test_a_whole_cycle(self):
        # The tiles of a cycle are 0, 1, 2, 1, 0: only tile 2 is swept in one tick of it alone.
        plan = (
            "corridor 3; signs a; moods k l m n o; robot 0 right; when k a leave a on l; when l a leave a on m; "
            "when m a leave a back n; when n a leave a on o; when o a leave a on k;"
        )
        self.assertEqual((0, 5), find_cycle(plan))
        self.assertEqual((5, 2, 2), longest_wait(plan))


class ErrorTest(unittest.TestCase):

    def test_wrong_tiles(self):
        for tile in [-1, 4, 5, FAR, -FAR, True, False, None, "0", "", [], [0], (), (0,)]:
            for call in ON_TILES:
                with self.subTest(tile=tile):
                    self.assertRaises(InvalidNumber, call, LATER, tile, 0)

    def test_wrong_ticks(self):
        for tick in NO_TICKS:
            for call in ON_TILES:
                with self.subTest(tick=tick):
                    self.assertRaises(InvalidTick, call, LATER, 0, tick)

    def test_the_order_of_errors_on_tiles(self):
        for call in ON_TILES:
            self.assertRaises(SyntaxFault, call, SYNTAX_WRONG, -1, -1)
            self.assertRaises(CheckFault, call, CHECK_WRONG, -1, -1)
            self.assertRaises(InvalidNumber, call, TOO_LONG_BARE, 16, -1)
            self.assertRaises(InvalidTick, call, TOO_LONG_BARE, 15, -1)
            self.assertRaises(TooLong, call, TOO_LONG_BARE, 15, 0)

    def test_errors_of_plans(self):
        for call in ON_PLANS:
            self.assertRaises(SyntaxFault, call, SYNTAX_WRONG)
            self.assertRaises(CheckFault, call, CHECK_WRONG)
            self.assertRaises(TooLong, call, TOO_LONG_BARE)
            for plan in [None, True, 1, [SWEEP], (SWEEP,)]:
                self.assertRaises(SyntaxFault, call, plan)

    def test_the_faults_are_those_of_the_machine(self):
        for call in ON_PLANS:
            with self.assertRaises(CheckFault) as caught:
                call("corridor 3;\nsigns no; moods go;\nrobot 3 left;")
            self.assertEqual(
                ("tile", 2, 6), (caught.exception.reason, caught.exception.line, caught.exception.column))


class WalkingTest(unittest.TestCase):
    """Random plans, compared with plain walking."""

    def test_plans(self):
        chance = random.Random(7)
        done = 0
        while done < 200:
            plan = random_plan(chance, (1, 2, 3, 4, 6))
            cycle = Model(plan).cycle(400)
            if cycle is None:
                continue
            done += 1
            with self.subTest(plan):
                self.check(plan, *cycle)

    def check(self, plan, start, length):
        walk = Walk(plan, start + 4 * length)
        begin = list(range(walk.size))
        in_cycle = sum(walk.tiles[start:start + length], [])
        self.assertEqual(sorted(set(in_cycle)), swept_for_ever(plan))
        self.assertEqual([tile for tile in begin if not walk.ticks_of(tile)], never_swept(plan))
        self.assertEqual(self.resting(walk), rest_tick(plan))
        self.assertEqual(self.waiting(walk), longest_wait(plan))
        for tile in begin:
            self.check_counts(plan, walk, tile, start, length)
            self.check_next(plan, walk, tile, start, length)

    def test_they_agree_with_the_machine(self):
        chance = random.Random(29)
        for _ in range(50):
            plan = random_plan(chance)
            if Model(plan).cycle(400) is None:
                continue
            rows = list(trace(plan, FAR - 499, FAR))
            with self.subTest(plan):
                for tile in range(Model(plan).size):
                    ticks = [tick for tick, _, other, _ in rows if other == tile]
                    counts = [count_swept(plan, tile, number) for number in (FAR - 499, FAR)]
                    self.assertEqual(len([tick for tick in ticks if tick < FAR]), counts[1] - counts[0])
                    if ticks:
                        self.assertEqual(ticks[0], next_swept(plan, tile, FAR - 499))
                        self.assertIn(tile, swept_for_ever(plan))
                self.assertEqual({row[3] for row in rows} == {"rest"}, rest_tick(plan) is not None)

    def resting(self, walk):
        """The first tick of the last ticks in which all robots rest, or None."""
        busy = [tick for tick, words in enumerate(walk.words) if set(words) != {"rest"}]
        first = busy[-1] + 1 if busy else 0
        return first if first < len(walk.words) else None

    def waiting(self, walk):
        waits = []
        for tile in range(walk.size):
            ticks = walk.ticks_of(tile)
            waits.extend((before - after, tile, before) for before, after in zip(ticks, ticks[1:]))
        wait, tile, tick = min(waits)
        return (-wait, tile, tick)

    def check_counts(self, plan, walk, tile, start, length):
        numbers = {0, 1, 2, start - 1, start, start + 1, start + length, start + 2 * length + length // 2}
        for number in sorted(numbers - {-1}):
            expected = sum(tiles.count(tile) for tiles in walk.tiles[:number])
            self.assertEqual(expected, count_swept(plan, tile, number))
        rest = start + (FAR - start) % length
        each = sum(tiles.count(tile) for tiles in walk.tiles[start:start + length])
        before = sum(tiles.count(tile) for tiles in walk.tiles[:rest])
        self.assertEqual(before + (FAR - rest) // length * each, count_swept(plan, tile, FAR))

    def check_next(self, plan, walk, tile, start, length):
        for tick in sorted({0, 1, start // 2, start, start + 1, start + length - 1, start + 2 * length}):
            later = [other for other in walk.ticks_of(tile) if other >= tick]
            self.assertEqual(min(later, default=None), next_swept(plan, tile, tick))
        like = start + (FAR - start) % length
        later = [other for other in walk.ticks_of(tile) if other >= like]
        expected = later[0] - like + FAR if later else None
        self.assertEqual(expected, next_swept(plan, tile, FAR))


if __name__ == "__main__":
    unittest.main()
