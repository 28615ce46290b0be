"""Finds out what the signs on one tile tell of the start of robot 0."""

from sweeprota.errors import Contradiction, UnknownSign
from sweeprota.plans import read_plan, started_plans
from sweeprota.running import Run, first_in_cycle
from sweeprota.ticks import check_number, check_tick


class View:
    """The signs on one tile by one start of robot 0, as numbers, one after each tick.

    A Watcher has up to 32 of these: they keep only this, as all the situations would take much room.
    """

    def __init__(self, start, plan, tile):
        run = Run(plan)
        self.start = start
        self.begin = run.start
        self.length = run.length
        self.numbers = [signs[tile] for signs, _ in run.situations]

    def number_after(self, tick):
        """Returns the number of the sign on the tile after a tick."""
        return self.numbers[first_in_cycle(tick + 1, self.begin, self.length)]


class Watcher:
    """Sees the sign on a tile, by a plan of which the start of robot 0 is not known."""

    def __init__(self, plan, tile):
        checked = read_plan(plan)
        check_number(tile, 0, checked.size - 1)
        self._signs = checked.signs
        # The views of all starts that are possible, in the order of the starts.
        self._views = [View(start, tried, tile) for start, tried in started_plans(checked)]
        self._seen = []

    @property
    def starts(self):
        """The list of all possible starts (tile, "left" or "right")."""
        return [view.start for view in self._views]

    @property
    def history(self):
        """The list of all accepted observations (tick, sign), in their order."""
        return list(self._seen)

    def see(self, tick, sign):
        """Observes the sign after a tick; returns the number of possible starts."""
        return self.see_from(tick, sign)

    def see_from(self, first, *signs):
        """Observes the signs after successive ticks, all or none; returns the number of possible starts."""
        # Also for no sign at all.
        check_tick(first)
        views = self._views
        for tick, sign in enumerate(signs, start=first):
            check_tick(tick)
            views = self._agreeing(views, tick, sign)
        self._views = views
        self._seen.extend(list(enumerate(signs, start=first)))
        return len(views)

    def possible(self, tick):
        """Returns the list of all signs that can lie on the tile after a tick."""
        check_tick(tick)
        numbers = [view.number_after(tick) for view in self._views]
        return [sign for number, sign in enumerate(self._signs) if number in numbers]

    def _agreeing(self, views, tick, sign):
        """Returns the views that have a sign after a tick; raises UnknownSign, Contradiction."""
        if sign not in self._signs:
            raise UnknownSign("not a sign of the plan")
        number = self._signs.index(sign)
        agreeing = [view for view in views if view.number_after(tick) == number]
        if not agreeing:
            raise Contradiction("no start would remain possible")
        return agreeing
