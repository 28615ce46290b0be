"""What holds over the whole program: its parts agree, and no call influences another one."""

import copy
import random
import unittest

from sweeprota.comparison import first_difference, first_error
from sweeprota.corridor import Corridor
from sweeprota.encoding import decode, encode
from sweeprota.errors import Contradiction, TooLong
from sweeprota.formatter import format_plan, signs_of
from sweeprota.machine import find_cycle, robots_in, signs_on, trace
from sweeprota.planning import fewest_signs, good_starts
from sweeprota.sweeping import count_swept, longest_wait, never_swept, next_swept, rest_tick, swept_for_ever
from sweeprota.watching import Watcher
from tests.helpers import SWEEP, random_plan
from tests.model import Model, starts_in, with_start
from tests.test_corridor import MIXED, told

LAST = 10 ** 18
THREE = MIXED.replace("corridor 4", "corridor 3").replace("robot 3 left;", "")


def list_trace(plan, first, last):
    """A trace as a list."""
    return list(trace(plan, first, last))


def questions(plan, other):
    """Calls of all functions, each (function, argument ..)."""
    tile = Model(plan).size - 1
    return [
        (format_plan, plan), (signs_of, plan), (find_cycle, plan), (signs_on, plan, 3), (signs_on, plan, LAST),
        (robots_in, plan, 3), (robots_in, plan, LAST), (list_trace, plan, 2, 9), (rest_tick, plan),
        (swept_for_ever, plan), (never_swept, plan), (count_swept, plan, tile, 99), (next_swept, plan, tile, 7),
        (longest_wait, plan), (fewest_signs, plan, 2), (good_starts, plan), (first_difference, plan, other),
        (first_error, plan, [[0], [1], [1]]), (encode, plan), (decode, encode(plan)),
    ]


# What is done with a corridor and a watcher: the methods and their arguments.
STEPS = [
    ("step", 3), ("possible", 3), ("put", 1, "red"), ("see_from", 10), ("turn", 0), ("save", "a"), ("undo",),
    ("possible", 4), ("batch", [("redo",), ("step", 2)]), ("see", 3, "red"), ("restore", "a"), ("step", 4),
    ("possible", LAST), ("see_from", 0, "no", "red"), ("restore", "a"), ("batch", [("turn", 0), ("undo",), ("undo",)]),
]


def emptied(result):
    """Takes everything out of the lists in a result."""
    if isinstance(result, (list, tuple)):
        for item in result:
            emptied(item)
    if isinstance(result, list):
        result.clear()


def do(corridor, watcher, step):
    """Does one of the steps; returns a copy of its result and of all properties."""
    name, *arguments = step
    owner = corridor if hasattr(corridor, name) else watcher
    try:
        result = getattr(owner, name)(*arguments)
    except Contradiction:
        result = "Contradiction"
    rows = [result, told(corridor), watcher.starts, watcher.history]
    kept = copy.deepcopy(rows)
    emptied(rows)
    return kept


class TurnsTest(unittest.TestCase):

    def test_two_plans_in_turn(self):
        pairs = zip(questions(SWEEP, SWEEP.replace("0 right", "1 left")), questions(THREE, THREE + "robot 0 left;"))
        rows = [row for pair in pairs for row in pair]
        expected = [copy.deepcopy(call(*arguments)) for call, *arguments in rows]
        chance = random.Random(59)
        for _ in range(3):
            for at in chance.sample(range(len(rows)), len(rows)):
                call, *arguments = rows[at]
                kept = copy.deepcopy(arguments)
                result = call(*arguments)
                self.assertEqual(expected[at], result, call)
                self.assertIs(type(expected[at]), type(result))
                self.assertEqual(kept, arguments)
                emptied(result)

    def test_corridors_and_watchers_at_once(self):
        plans = [SWEEP, MIXED, SWEEP, THREE]
        alone = []
        for plan in plans:
            corridor, watcher = Corridor(plan), Watcher(plan, 1)
            alone.append([do(corridor, watcher, step) for step in STEPS])
        both = [(Corridor(plan), Watcher(plan, 1)) for plan in plans]
        for at, step in enumerate(STEPS):
            for number, (corridor, watcher) in enumerate(both):
                self.assertEqual(alone[number][at], do(corridor, watcher, step), (plans[number], step))

    def test_the_same_questions_in_another_order(self):
        corridor, watcher = Corridor(MIXED), Watcher(MIXED, 1)
        corridor.step(7)
        watcher.see(0, watcher.possible(0)[0])
        first = [told(corridor), watcher.starts, watcher.history, watcher.possible(3), watcher.possible(4)]
        second = [watcher.possible(4), watcher.possible(3), watcher.history, watcher.starts, told(corridor)]
        self.assertEqual(first, second[::-1])


class AgreementTest(unittest.TestCase):
    """Random plans that repeat early."""

    def with_plans(self, seed, count, check):
        chance = random.Random(seed)
        for _ in range(count):
            plan = random_plan(chance)
            try:
                find_cycle(plan)
            except TooLong:
                continue
            with self.subTest(plan):
                check(chance, plan)

    def test_a_corridor_and_the_machine(self):
        self.with_plans(61, 150, self.check_corridor)

    def check_corridor(self, chance, plan):
        corridor = Corridor(plan)
        rows = []
        while len(rows) < 100:
            rows += corridor.step(chance.randint(1, 40))
            self.assertEqual(len(rows), corridor.passed)
            self.assertEqual(signs_on(plan, len(rows) - 1), corridor.signs_now)
            self.assertEqual(robots_in(plan, len(rows) - 1), corridor.robots_now)
            counts = [count_swept(plan, tile, len(rows)) for tile in range(len(corridor.signs_now))]
            self.assertEqual(counts, corridor.sweeps)
        tiles = [tile for tick_tiles in rows for tile in tick_tiles]
        self.assertEqual([tile for _, _, tile, _ in trace(plan, 0, len(rows) - 1)], tiles)
        self.assertIsNone(first_error(plan, rows))

    def test_a_watcher_and_the_machine(self):
        self.with_plans(67, 60, self.check_watcher)

    def check_watcher(self, chance, plan):
        size = Model(plan).size
        tile = chance.randrange(size)
        texts = {start: with_start(plan, start) for start in starts_in(size)}
        watcher = Watcher(plan, tile)
        for _ in range(4):
            tick = chance.choice([0, 1, 7, chance.randrange(50), chance.randrange(LAST), LAST])
            signs = {start: signs_on(text, tick)[tile] for start, text in texts.items()}
            expected = [sign for sign in signs_of(plan) if sign in signs.values()]
            self.assertEqual(expected, watcher.possible(tick))
            seen = chance.choice(expected)
            texts = {start: text for start, text in texts.items() if signs[start] == seen}
            self.assertEqual(len(texts), watcher.see(tick, seen))
            self.assertEqual(list(texts), watcher.starts)

    def test_texts_of_bytes(self):
        self.with_plans(71, 100, self.check_text)

    def check_text(self, chance, plan):
        text = decode(encode(plan))
        self.assertEqual(format_plan(plan), text)
        self.assertEqual(find_cycle(plan), find_cycle(text))
        self.assertIsNone(first_difference(plan, text))
        self.assertEqual(told(Corridor(plan)), told(Corridor(text)))
        tick = chance.randrange(LAST)
        self.assertEqual(signs_on(plan, tick), signs_on(text, tick))

    def test_starts_and_sweeping(self):
        self.with_plans(73, 40, self.check_starts)

    def check_starts(self, _, plan):
        starts = starts_in(Model(plan).size)
        every = list(range(len(starts) // 2))
        good = [start for start in starts if swept_for_ever(with_start(plan, start)) == every]
        self.assertEqual(good, good_starts(plan))
        self.assertEqual(starts, Watcher(plan, 0).starts)


if __name__ == "__main__":
    unittest.main()
