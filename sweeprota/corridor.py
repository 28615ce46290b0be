"""A corridor that runs a plan tick by tick, with undo, snapshots and batches."""

from sweeprota.errors import InvalidName, InvalidOperation, SweepError, UnknownName, UnknownSign
from sweeprota.lexer import LETTERS, LONGEST_WORD
from sweeprota.plans import read_plan
from sweeprota.running import first_situation, perform, robot_tuples, sign_names, swept_tiles
from sweeprota.ticks import check_number

MOST_STEPS = 500

# How many arguments the operations of a list have, by their words.
ARGUMENTS = {"step": 1, "put": 2, "turn": 1, "undo": 0, "redo": 0}


class Moment:
    """What a corridor is like: the ticks that have passed, the situation, and the sweeps of each tile.

    Undo and snapshots come back to it, so it is never changed.
    """

    def __init__(self, tick, situation, counts):
        self.tick = tick
        self.situation = situation
        self.counts = counts


class Corridor:
    """Runs a plan tick by tick from the beginning, and keeps all operations to undo and redo them."""

    def __init__(self, plan):
        self._plan = read_plan(plan)
        # The words of all operations in effect, and behind them those that can be redone;
        # the moments are one more: the one in the beginning, and one after each operation.
        self._words = []
        self._moments = [Moment(0, first_situation(self._plan), [0] * self._plan.size)]
        self._done = 0
        self._snapshots = {}

    @classmethod
    def replay(cls, plan, operations):
        """Returns a corridor after a list of operations; raises InvalidOperation at the first wrong one."""
        corridor = cls(plan)
        if not isinstance(operations, list):
            raise InvalidOperation(0)
        for place, operation in enumerate(operations):
            check_operation(operation, place)
            try:
                execute(corridor, operation)
            except SweepError:
                raise InvalidOperation(place) from None
        return corridor

    @property
    def passed(self):
        """The number of ticks that have passed."""
        return self._moments[self._done].tick

    @property
    def robots_now(self):
        """The list of tuples (tile, "left" or "right", mood) of all robots."""
        _, robots = self._moments[self._done].situation
        return robot_tuples(self._plan, robots)

    @property
    def signs_now(self):
        """The list of the signs on all tiles."""
        signs, _ = self._moments[self._done].situation
        return sign_names(self._plan, signs)

    @property
    def sweeps(self):
        """The list of how often each tile has been swept."""
        return list(self._moments[self._done].counts)

    @property
    def operations(self):
        """The list of the words of all operations in effect."""
        return self._words[:self._done]

    def step(self, count):
        """Lets ticks pass; returns the list of the lists of tiles that are swept in each of them."""
        check_number(count, 0, MOST_STEPS)
        now = self._now()
        situation = now.situation
        counts = list(now.counts)
        rows = []
        for _ in range(count):
            tiles = swept_tiles(situation)
            for tile in tiles:
                counts[tile] += 1
            rows.append(tiles)
            _, situation = perform(self._plan, situation)
        self._add("step", Moment(now.tick + count, situation, counts))
        return rows

    def put(self, tile, sign):
        """Puts a sign on a tile; returns the one that was there."""
        check_number(tile, 0, self._plan.size - 1)
        if sign not in self._plan.signs:
            raise UnknownSign("not a sign of the plan")
        now = self._now()
        old_signs, robots = now.situation
        signs = list(old_signs)
        signs[tile] = self._plan.signs.index(sign)
        self._add("put", Moment(now.tick, (tuple(signs), robots), now.counts))
        return self._plan.signs[old_signs[tile]]

    def turn(self, number):
        """Lets a robot face the other way; returns its tile."""
        check_number(number, 0, len(self._plan.robots) - 1)
        now = self._now()
        signs, old_robots = now.situation
        robots = list(old_robots)
        tile, side, mood = robots[number]
        robots[number] = (tile, 1 - side, mood)
        self._add("turn", Moment(now.tick, (signs, tuple(robots)), now.counts))
        return tile

    def undo(self):
        """Undoes the last operation in effect; returns whether there was one."""
        if self._done == 0:
            return False
        self._done -= 1
        return True

    def redo(self):
        """Repeats the operation that was undone last; returns whether there was one."""
        if self._done == len(self._words):
            return False
        self._done += 1
        return True

    def save(self, name):
        """Saves the complete state under a name."""
        if not is_name(name):
            raise InvalidName("not one to eight letters a to z")
        self._snapshots[name] = self._state()

    def restore(self, name):
        """Restores a snapshot."""
        # What is no text may be a list, which is no key.
        if not isinstance(name, str) or name not in self._snapshots:
            raise UnknownName("there is no such snapshot")
        self._set_state(self._snapshots[name])

    def batch(self, operations):
        """Executes a list of operations, all or none; returns the list of their results."""
        check_operations(operations)
        state = self._state()
        try:
            return [execute(self, operation) for operation in operations]
        except SweepError:
            self._set_state(state)
            raise

    def _now(self):
        """Returns the present moment."""
        return self._moments[self._done]

    def _add(self, word, moment):
        """Adds an operation that leads to a moment; what was undone cannot be redone then."""
        del self._words[self._done:]
        del self._moments[self._done + 1:]
        self._words.append(word)
        self._moments.append(moment)
        self._done += 1

    def _state(self):
        """Returns the complete state, which later operations do not change."""
        return (tuple(self._words), tuple(self._moments), self._done)

    def _set_state(self, state):
        """Comes back to a complete state."""
        words, moments, done = state
        self._words = list(words)
        self._moments = list(moments)
        self._done = done


def is_name(name):
    """Returns whether a value is a name for a snapshot."""
    if not isinstance(name, str) or not 1 <= len(name) <= LONGEST_WORD:
        return False
    return all([letter in LETTERS for letter in name])


def check_operations(operations):
    """Raises InvalidOperation unless a value is a list of well-formed operations."""
    if not isinstance(operations, list):
        raise InvalidOperation(0)
    for place, operation in enumerate(operations):
        check_operation(operation, place)


def check_operation(operation, place):
    """Raises InvalidOperation with a place unless a value is a tuple of a word and its arguments."""
    if not isinstance(operation, tuple) or not operation:
        raise InvalidOperation(place)
    word = operation[0]
    # What is no text may be a list, which is no key.
    if not isinstance(word, str) or len(operation) - 1 != ARGUMENTS.get(word):
        raise InvalidOperation(place)


def execute(corridor, operation):
    """Executes a well-formed operation on a corridor; returns its result."""
    match operation:
        case ("step", count):
            return corridor.step(count)
        case ("put", tile, sign):
            return corridor.put(tile, sign)
        case ("turn", number):
            return corridor.turn(number)
        case ("undo",):
            return corridor.undo()
        case _:
            return corridor.redo()
