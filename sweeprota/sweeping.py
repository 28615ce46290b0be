"""Tells which tiles are swept, how often and when, and when all robots rest."""

from sweeprota.plans import read_plan
from sweeprota.running import Run
from sweeprota.ticks import check_number, check_tick


def rest_tick(plan):
    """Returns the first tick from which on all robots rest for ever, or None."""
    run = Run(read_plan(plan))
    # A tick in which all robots rest changes nothing, so the cycle begins with the first such tick.
    if all(word == "rest" for word in run.words[run.start]):
        return run.start
    return None


def swept_for_ever(plan):
    """Returns the ascending list of all tiles that are swept in some tick of the cycle."""
    return Run(read_plan(plan)).tiles_for_ever()


def never_swept(plan):
    """Returns the ascending list of all tiles that are never swept."""
    checked = read_plan(plan)
    swept = Run(checked).tiles_from(0)
    return [tile for tile in range(checked.size) if tile not in swept]


def count_swept(plan, tile, ticks):
    """Returns how often a tile is swept in the first so many ticks."""
    run = checked_run(plan, tile, ticks)
    counts = [run.tiles_in(tick).count(tile) for tick in range(run.start + run.length)]
    before = sum(counts[:min(ticks, run.start)])
    cycles, rest = divmod(max(ticks - run.start, 0), run.length)
    return before + cycles * sum(counts[run.start:]) + sum(counts[run.start:run.start + rest])


def next_swept(plan, tile, tick):
    """Returns the first tick, from a tick on, in which a tile is swept, or None."""
    run = checked_run(plan, tile, tick)
    for later in range(tick, max(tick, run.start) + run.length):
        if tile in run.tiles_in(later):
            return later
    return None


def longest_wait(plan):
    """Returns a tuple (ticks, tile, tick) of the longest wait for a tile and the tick before it."""
    # No plan has the answer None: a robot sweeps a tile in each tick, so some tile is swept again.
    negative, tile, tick = min(waits_in(Run(read_plan(plan))))
    return (-negative, tile, tick)


def waits_in(run):
    """Returns the list of (-ticks, tile, tick) for all different waits from one sweep to the next."""
    waits = []
    last_ticks = {}
    # A wait that begins in the first cycle ends in the second one at the latest.
    for tick in range(run.start + 2 * run.length):
        for tile in sorted(set(run.tiles_in(tick))):
            if tile in last_ticks:
                waits.append((last_ticks[tile] - tick, tile, last_ticks[tile]))
            last_ticks[tile] = tick
    return waits


def checked_run(plan, tile, tick):
    """Returns the Run of a plan; raises the errors of functions with a tile and a tick, in their order."""
    checked = read_plan(plan)
    check_number(tile, 0, checked.size - 1)
    check_tick(tick)
    return Run(checked)
