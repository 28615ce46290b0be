"""Compares two plans, and a log with a plan."""

from sweeprota.errors import OtherCorridor
from sweeprota.plans import read_plan, read_plans
from sweeprota.running import Run
from sweeprota.ticks import is_integer


def first_difference(plan, other):
    """Returns the first tick after which the signs on the tiles differ by two plans, or None."""
    one, two = read_plans([plan, other])
    if one.size != two.size or one.signs != two.signs:
        raise OtherCorridor("the plans have other tiles or signs")
    run_one = Run(one)
    run_two = Run(two)
    # Two endless rows with the periods p and q are equal if they are in p + q successive ticks
    # (the theorem of Fine and Wilf): to go on to the common multiple would only take longer.
    end = max(run_one.start, run_two.start) + run_one.length + run_two.length
    for tick in range(end):
        if signs_after(run_one, tick) != signs_after(run_two, tick):
            return tick
    return None


def signs_after(run, tick):
    """Returns the tuple of the numbers of the signs on all tiles after a tick."""
    signs, _ = run.situations[run.first_like(tick + 1)]
    return signs


def first_error(plan, log):
    """Returns the index of the first item of a log that does not tell the tiles of its tick, or None."""
    run = Run(read_plan(plan))
    if not isinstance(log, list):
        return 0
    for index, item in enumerate(log):
        if not tells(item, run.tiles_in(index)):
            return index
    return None


def tells(item, tiles):
    """Returns whether an item of a log is the list of these tiles, in their order."""
    if not isinstance(item, list) or len(item) != len(tiles):
        return False
    # True and False are no tiles, although they equal 1 and 0.
    return all([is_integer(number) and number == tile for number, tile in zip(item, tiles)])
