"""Finds signs and starts with which all tiles are swept for ever."""

from itertools import combinations

from sweeprota.formatter import canonical_text
from sweeprota.plans import changed_plan, read_plan, started_plans
from sweeprota.running import Run
from sweeprota.ticks import check_number

HIGHEST_LIMIT = 3


def fewest_signs(plan, limit):
    """Returns a tuple of the list of the fewest (tile, sign) and the new plan, or None beyond a limit."""
    checked = read_plan(plan)
    check_number(limit, 0, HIGHEST_LIMIT)
    # Only for TooLong: all functions on plans raise it for the plan that they are passed.
    Run(checked)
    for many in range(limit + 1):
        for puts in choices_of(checked, many):
            tried = changed_plan(checked, checked.robots, puts)
            if sweeps_all(tried):
                named = [(tile, checked.signs[sign]) for tile, sign in puts.items()]
                return (named, canonical_text(tried))
    return None


def choices_of(plan, many):
    """Returns, in list order, all ways to put so many signs, each a dict of signs by ascending tiles."""
    pairs = [(tile, sign) for tile in range(plan.size) for sign in range(1, len(plan.signs))]
    choices = [dict(chosen) for chosen in combinations(pairs, many)]
    # Pairs with the same tile became one item.
    return [puts for puts in choices if len(puts) == many]


def good_starts(plan):
    """Returns the list of all starts of robot 0 with which all tiles are swept for ever."""
    return [start for start, tried in started_plans(read_plan(plan)) if sweeps_all(tried)]


def sweeps_all(plan):
    """Returns whether all tiles are swept for ever by a checked plan; raises TooLong."""
    return len(Run(plan).tiles_for_ever()) == plan.size
