"""Tells what lies where, and what the robots do, in any tick."""

from sweeprota.plans import read_plan
from sweeprota.running import Run, robot_tuples, sign_names
from sweeprota.ticks import LAST_TICK, check_tick

LONGEST_TRACE = 500


def signs_on(plan, tick):
    """Returns the list of the signs on all tiles after a tick."""
    checked = read_plan(plan)
    signs, _ = situation_after(checked, tick)
    return sign_names(checked, signs)


def robots_in(plan, tick):
    """Returns the list of tuples (tile, "left" or "right", mood) of all robots after a tick."""
    checked = read_plan(plan)
    _, robots = situation_after(checked, tick)
    return robot_tuples(checked, robots)


def trace(plan, first, last):
    """Yields tuples (tick, robot, tile, word) for each robot in the ticks from first to last."""
    checked = read_plan(plan)
    check_tick(first)
    check_tick(last, first - 1, min(first + LONGEST_TRACE - 1, LAST_TICK))
    run = Run(checked)
    for tick in range(first, last + 1):
        early = run.first_like(tick)
        _, robots = run.situations[early]
        for number, word in enumerate(run.words[early]):
            yield (tick, number, robots[number][0], word)


def find_cycle(plan):
    """Returns a tuple of the tick with which the cycle begins and its length in ticks."""
    run = Run(read_plan(plan))
    return (run.start, run.length)


def situation_after(checked, tick):
    """Returns the situation of a checked plan after a tick; raises InvalidTick, TooLong."""
    check_tick(tick)
    run = Run(checked)
    return run.situations[run.first_like(tick + 1)]
