"""Random plans, compared with the model."""

import random
import unittest

from sweeprota.errors import TooLong
from sweeprota.formatter import format_plan
from sweeprota.machine import find_cycle, robots_in, signs_on, trace
from tests.helpers import random_plan
from tests.model import Model


class RandomTest(unittest.TestCase):

    def test_plans(self):
        chance = random.Random(1)
        for _ in range(300):
            plan = random_plan(chance)
            with self.subTest(plan):
                cycle = Model(plan).cycle(20000)
                if cycle is None:
                    self.assertRaises(TooLong, find_cycle, plan)
                else:
                    self.assertEqual(cycle, find_cycle(plan))
                    self.check_ticks(plan)
                    self.check_far_ticks(plan, *cycle)

    def check_ticks(self, plan):
        model = Model(plan)
        steps = trace(plan, 0, 29)
        for tick in range(30):
            for number, (tile, word) in enumerate(model.tick()):
                self.assertEqual((tick, number, tile, word), next(steps))
            if tick % 7 < 2:
                self.assertEqual(model.signs, signs_on(plan, tick))
                self.assertEqual([tuple(robot) for robot in model.robots], robots_in(plan, tick))

    def check_far_ticks(self, plan, start, length):
        for tick in [start, start + length]:
            far = tick + (10 ** 18 - tick) // length * length
            self.assertEqual(signs_on(plan, tick), signs_on(plan, far))
            self.assertEqual(robots_in(plan, tick), robots_in(plan, far))

    def test_the_canonical_text_runs_likewise(self):
        chance = random.Random(3)
        for _ in range(100):
            plan = random_plan(chance)
            text = format_plan(plan)
            with self.subTest(plan):
                self.assertEqual(text, format_plan(text))
                self.assertEqual(Model(plan).cycle(500), Model(text).cycle(500))


if __name__ == "__main__":
    unittest.main()
