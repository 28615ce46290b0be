"""Runs a plan tick by tick, and finds where it repeats.

A situation is a tuple of the signs on all tiles and of all robots, each of these (tile, side, mood).
"""

from sweeprota.errors import TooLong
from sweeprota.plans import MOVES, SIDES

LEFT = 0
BACK = 1
STAY = 2
LAST_REPEAT = 20000


class Run:
    """All different situations of a plan, by ticks, and the cycle in which they come again.

    words has, for each of these ticks, the list of what the robots do in it.
    """

    def __init__(self, plan):
        self.situations = []
        self.words = []
        ticks = {}
        situation = first_situation(plan)
        while situation not in ticks:
            tick = len(self.situations)
            if tick == LAST_REPEAT:
                raise TooLong("the plan does not repeat early")
            ticks[situation] = tick
            self.situations.append(situation)
            words, situation = perform(plan, situation)
            self.words.append(words)
        self.start = ticks[situation]
        self.length = len(self.situations) - self.start

    def first_like(self, tick):
        """Returns the first tick that has the same situation as a tick."""
        return first_in_cycle(tick, self.start, self.length)

    def tiles_in(self, tick):
        """Returns the list of the tiles that all robots sweep in a tick, in their order."""
        return swept_tiles(self.situations[self.first_like(tick)])

    def tiles_from(self, first):
        """Returns the ascending list of all tiles that are swept in some tick from a first one on."""
        found = set()
        for tick in range(first, max(first, self.start) + self.length):
            for tile in self.tiles_in(tick):
                found.add(tile)
        return sorted(found)

    def tiles_for_ever(self):
        """Returns the ascending list of all tiles that are swept in the cycle."""
        return self.tiles_from(self.start)


def first_in_cycle(tick, start, length):
    """Returns the first tick that has the same situation as a tick, by the first tick and the length of the cycle."""
    if tick < start:
        return tick
    return start + (tick - start) % length


def swept_tiles(situation):
    """Returns the list of the tiles that all robots sweep in a tick with this situation, in their order."""
    _, robots = situation
    return [robot[0] for robot in robots]


def first_situation(plan):
    """Returns the situation in the beginning."""
    signs = [plan.puts.get(tile, 0) for tile in range(plan.size)]
    robots = [(tile, side, 0) for tile, side in plan.robots]
    return (tuple(signs), tuple(robots))


def perform(plan, situation):
    """Returns what all robots do in a tick, a list of words, and the situation after it."""
    old_signs, old_robots = situation
    signs = list(old_signs)
    robots = []
    words = []
    for robot in old_robots:
        word, new_robot = act(plan, signs, robot)
        words.append(word)
        robots.append(new_robot)
    return words, (tuple(signs), tuple(robots))


def act(plan, signs, robot):
    """Lets a robot act, which changes the list of signs; returns its word and the new robot."""
    tile, side, mood = robot
    rule = plan.rules.get((mood, signs[tile]))
    if rule is None:
        return "rest", robot
    new_sign, move, new_mood = rule
    signs[tile] = new_sign
    new_tile, new_side = moved(plan.size, tile, side, move)
    return MOVES[move], (new_tile, new_side, new_mood)


def moved(size, tile, side, move):
    """Returns the tile and the side of a robot after a move."""
    if move == STAY:
        return tile, side
    heading = 1 - side if move == BACK else side
    ahead = tile - 1 if heading == LEFT else tile + 1
    if 0 <= ahead < size:
        return ahead, heading
    return tile, 1 - heading


def sign_names(plan, signs):
    """Returns the list of the names of signs that are given by their numbers."""
    return [plan.signs[sign] for sign in signs]


def robot_tuples(plan, robots):
    """Returns the list of robots as tuples (tile, "left" or "right", name of the mood)."""
    return [(tile, SIDES[side], plan.moods[mood]) for tile, side, mood in robots]
