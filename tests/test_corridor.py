"""A corridor: operations, undo and redo, properties, snapshots."""

import random
import unittest

from sweeprota.corridor import Corridor
from sweeprota.errors import CheckFault, InvalidName, InvalidNumber, SyntaxFault, TooLong, UnknownName, UnknownSign
from sweeprota.formatter import signs_of
from sweeprota.machine import find_cycle
from tests.helpers import CHECK_WRONG, NO_NUMBERS, SWEEP, SYNTAX_WRONG, TOO_LONG_BARE, random_plan
from tests.model import Ledger

NO_SIGNS = ["go", "come", "green", "", "no ", "No", True, False, None, 0, 1, ("no",), (), ["no"], []]
NO_NAMES = [
    "", "ninelongs", "abcdefghi", "X", "aB", "a1", "1", "a b", " ", "a ", "a_b", "a-b", "a\n", "\u00e4", "\u0430",
    True, False, None, 0, 7, (), ("a",), [], ["a"],
]
NAMES = ["a", "z", "abcdefgh", "zzzzzzzz", "step", "put", "corridor", "on"]
MIXED = (
    "corridor 4; signs no red blue; moods go come; robot 1 right; robot 3 left; robot 1 left; put red 2; "
    "when go no leave red on go; when go red leave blue back come; when come red leave no stay go; "
    "when come blue leave no on go;"
)


def told(corridor):
    """All properties."""
    return [
        corridor.passed, corridor.robots_now, corridor.signs_now, corridor.sweeps, corridor.operations,
    ]


def future(corridor):
    """All that undo and redo would do, which are done and taken back."""
    rows = []
    for there, back in [(corridor.undo, corridor.redo), (corridor.redo, corridor.undo)]:
        count = 0
        while there():
            count += 1
            rows.append(told(corridor))
        rows.append(count)
        for _ in range(count):
            assert back()
    return rows


def complete(corridor):
    """The complete state."""
    return [told(corridor), future(corridor)]


class CorridorCase(unittest.TestCase):

    def assert_refused(self, error, corridor, name, *arguments):
        before = complete(corridor)
        self.assertRaises(error, getattr(corridor, name), *arguments)
        self.assertEqual(before, complete(corridor), arguments)

    def begun(self):
        """A corridor with three operations in effect, and two to redo."""
        corridor = Corridor(MIXED)
        corridor.step(2)
        corridor.put(0, "blue")
        corridor.turn(1)
        corridor.step(3)
        corridor.put(3, "red")
        corridor.undo()
        corridor.undo()
        self.assertEqual(["step", "put", "turn"], corridor.operations)
        return corridor


class BeginningTest(CorridorCase):

    def test_properties(self):
        corridor = Corridor(MIXED)
        self.assertEqual(0, corridor.passed)
        self.assertEqual([(1, "right", "go"), (3, "left", "go"), (1, "left", "go")], corridor.robots_now)
        self.assertEqual(["no", "no", "red", "no"], corridor.signs_now)
        self.assertEqual([0, 0, 0, 0], corridor.sweeps)
        self.assertEqual([], corridor.operations)

    def test_nothing_to_undo_or_redo(self):
        corridor = Corridor(MIXED)
        before = told(corridor)
        for _ in range(2):
            self.assertIs(False, corridor.undo())
            self.assertIs(False, corridor.redo())
            self.assertEqual(before, told(corridor))

    def test_wrong_plans(self):
        for plan in [None, True, 0, "", "corridor", [SWEEP], (SWEEP,), SYNTAX_WRONG]:
            self.assertRaises(SyntaxFault, Corridor, plan)
        self.assertRaises(CheckFault, Corridor, CHECK_WRONG)

    def test_plans_that_do_not_repeat_early(self):
        self.assertRaises(TooLong, find_cycle, TOO_LONG_BARE)
        corridor, ledger = Corridor(TOO_LONG_BARE), Ledger(TOO_LONG_BARE)
        for _ in range(50):
            self.assertEqual(ledger.execute(("step", 500)), corridor.step(500))
        self.assertEqual(ledger.told()[:-1], told(corridor))
        self.assertEqual(25000, corridor.passed)


class StepTest(CorridorCase):

    def test_all_robots_in_their_order(self):
        plan = "corridor 3; signs a; moods m; robot 2 left; robot 0 right; robot 2 right; when m a leave a on m;"
        corridor = Corridor(plan)
        self.assertEqual([[2, 0, 2], [1, 1, 2], [0, 2, 1]], corridor.step(3))
        # Two robots on a tile sweep it twice.
        self.assertEqual([2, 3, 4], corridor.sweeps)
        self.assertEqual(3, corridor.passed)
        self.assertEqual([(0, "right", "m"), (2, "left", "m"), (0, "left", "m")], corridor.robots_now)

    def test_in_parts(self):
        one, two = Corridor(MIXED), Corridor(MIXED)
        rows = one.step(20)
        self.assertEqual(rows, sum([two.step(count) for count in [1, 0, 4, 0, 15]], []))
        self.assertEqual(told(one)[:4], told(two)[:4])
        self.assertEqual([["step"], ["step"] * 5], [one.operations, two.operations])

    def test_robots_that_rest(self):
        corridor = Corridor("corridor 2; signs a; moods m; robot 1 left;")
        self.assertEqual([[1]] * 500, corridor.step(500))
        self.assertEqual([500, [(1, "left", "m")], ["a", "a"], [0, 500], ["step"]], told(corridor))

    def test_the_limits(self):
        for count in [0, 1, 499, 500]:
            corridor = Corridor(SWEEP)
            self.assertEqual(count, len(corridor.step(count)))
            self.assertEqual([count, count], [corridor.passed, sum(corridor.sweeps)])
            self.assertEqual(["step"], corridor.operations)

    def test_no_tick_is_an_operation(self):
        corridor = Corridor(SWEEP)
        before = told(corridor)
        self.assertEqual([], corridor.step(0))
        self.assertEqual(before[:4], told(corridor)[:4])
        self.assertEqual(["step"], corridor.operations)
        self.assertEqual([True, False], [corridor.undo(), corridor.undo()])

    def test_invalid_numbers(self):
        for corridor in [Corridor(MIXED), self.begun()]:
            for count in [-1, 501, 10 ** 18] + NO_NUMBERS:
                self.assert_refused(InvalidNumber, corridor, "step", count)


class PutTest(CorridorCase):

    def test_the_former_sign(self):
        corridor = Corridor(SWEEP)
        self.assertEqual("no", corridor.put(2, "red"))
        self.assertEqual("red", corridor.put(2, "red"))
        self.assertEqual("red", corridor.put(2, "no"))
        self.assertEqual(["no", "no", "no"], corridor.signs_now)
        self.assertEqual([0, [(0, "right", "go")]], told(corridor)[:2])
        self.assertEqual(([0, 0, 0], ["put"] * 3), (corridor.sweeps, corridor.operations))

    def test_the_same_sign_is_an_operation(self):
        corridor = Corridor(SWEEP)
        corridor.put(0, "no")
        self.assertEqual(["put"], corridor.operations)
        self.assertEqual([True, False], [corridor.undo(), corridor.undo()])

    def test_robots_see_it(self):
        corridor = Corridor(SWEEP)
        corridor.put(0, "red")
        corridor.step(1)
        self.assertEqual(["no", "no", "no"], corridor.signs_now)
        # Only signs that the robots meet change them.
        plan = "corridor 2; signs a b; moods m n; robot 0 left; when m b leave a back n;"
        corridor = Corridor(plan)
        corridor.step(3)
        self.assertEqual("a", corridor.put(0, "b"))
        corridor.step(1)
        self.assertEqual(([(1, "right", "n")], ["a", "a"]), (corridor.robots_now, corridor.signs_now))

    def test_the_order_of_errors(self):
        for corridor in [Corridor(MIXED), self.begun()]:
            for tile in [-1, 4, 16] + NO_NUMBERS:
                self.assert_refused(InvalidNumber, corridor, "put", tile, "no")
                self.assert_refused(InvalidNumber, corridor, "put", tile, "green")
            for sign in NO_SIGNS:
                self.assert_refused(UnknownSign, corridor, "put", 3, sign)
            self.assertEqual(corridor.signs_now[3], corridor.put(3, "no"))


class TurnTest(CorridorCase):

    def test_it_only_turns(self):
        corridor = Corridor(MIXED)
        before = told(corridor)
        self.assertEqual([1, 3, 1], [corridor.turn(number) for number in range(3)])
        self.assertEqual([(1, "left", "go"), (3, "right", "go"), (1, "right", "go")], corridor.robots_now)
        self.assertEqual([before[0], *before[2:4], ["turn"] * 3], [told(corridor)[0], *told(corridor)[2:]])
        self.assertEqual(3, corridor.turn(1))
        self.assertEqual((3, "left", "go"), corridor.robots_now[1])

    def test_after_a_step(self):
        corridor = Corridor(SWEEP)
        corridor.step(1)
        self.assertEqual(1, corridor.turn(0))
        self.assertEqual([[1], [0]], corridor.step(2))

    def test_invalid_numbers(self):
        for corridor in [Corridor(MIXED), self.begun()]:
            for number in [-1, 3, 10 ** 18] + NO_NUMBERS:
                self.assert_refused(InvalidNumber, corridor, "turn", number)
        self.assert_refused(InvalidNumber, Corridor(SWEEP), "turn", 1)


class UndoTest(CorridorCase):

    def operations(self):
        return [
            ("step", 2), ("put", 0, "blue"), ("turn", 2), ("step", 0), ("step", 5), ("put", 3, "no"),
            ("put", 3, "no"), ("turn", 2), ("step", 1),
        ]

    def test_several_in_a_row(self):
        corridor = Corridor(MIXED)
        states = [told(corridor)]
        for word, *arguments in self.operations():
            getattr(corridor, word)(*arguments)
            states.append(told(corridor))
        for _ in range(2):
            for state in reversed(states[:-1]):
                self.assertIs(True, corridor.undo())
                self.assertEqual(state, told(corridor))
            self.assertIs(False, corridor.undo())
            for state in states[1:]:
                self.assertIs(True, corridor.redo())
                self.assertEqual(state, told(corridor))
            self.assertIs(False, corridor.redo())
        self.assertEqual([word for word, *_ in self.operations()], corridor.operations)

    def test_to_and_fro(self):
        corridor = self.begun()
        self.assertEqual([True, True, True], [corridor.redo(), corridor.undo(), corridor.redo()])
        self.assertEqual(["step", "put", "turn", "step"], corridor.operations)
        self.assertEqual([True, False], [corridor.redo(), corridor.redo()])
        self.assertEqual(["step", "put", "turn", "step", "put"], corridor.operations)

    def test_nothing_to_redo_after_a_new_operation(self):
        for name, *arguments in [("step", 0), ("step", 2), ("put", 0, "blue"), ("turn", 0)]:
            corridor = self.begun()
            getattr(corridor, name)(*arguments)
            before = told(corridor)
            self.assertIs(False, corridor.redo())
            self.assertEqual(before, told(corridor))
            self.assertEqual(["step", "put", "turn", name], corridor.operations)
            # What was undone before does not come back, not even after an undo.
            self.assertEqual([True, True, False], [corridor.undo(), corridor.redo(), corridor.redo()])
            self.assertEqual(before, told(corridor))

    def test_redo_after_an_operation_that_failed(self):
        corridor = self.begun()
        for name, *arguments in [("step", 501), ("put", 4, "no"), ("put", 0, "green"), ("turn", 3),
                                 ("save", "A"), ("restore", "unknown"), ("batch", None)]:
            self.assertRaises(ValueError, getattr(corridor, name), *arguments)
        self.assertEqual([True, True, False], [corridor.redo(), corridor.redo(), corridor.redo()])
        self.assertEqual(["step", "put", "turn", "step", "put"], corridor.operations)

    def test_undo_leaves_an_older_operation_to_redo(self):
        corridor = self.begun()
        corridor.undo()
        self.assertEqual([True, True, True, False], [corridor.redo() for _ in range(4)])


class SnapshotTest(CorridorCase):

    def test_valid_names(self):
        corridor = self.begun()
        before = complete(corridor)
        for name in NAMES:
            self.assertIsNone(corridor.save(name))
        for name in NAMES:
            corridor.step(1)
            self.assertIsNone(corridor.restore(name))
            self.assertEqual(before, complete(corridor))

    def test_invalid_names(self):
        corridor = self.begun()
        corridor.save("a")
        for name in NO_NAMES:
            with self.subTest(name=name):
                self.assert_refused(InvalidName, corridor, "save", name)
                self.assert_refused(UnknownName, corridor, "restore", name)

    def test_names_never_saved(self):
        corridor = self.begun()
        for name in NAMES:
            self.assert_refused(UnknownName, corridor, "restore", name)
        corridor.save("a")
        for name in ["b", "aa", ""]:
            self.assert_refused(UnknownName, corridor, "restore", name)

    def test_names_saved_twice(self):
        corridor = Corridor(SWEEP)
        corridor.save("x")
        corridor.step(2)
        later = complete(corridor)
        corridor.save("x")
        corridor.step(1)
        corridor.restore("x")
        self.assertEqual(later, complete(corridor))

    def test_several_names(self):
        corridor = Corridor(MIXED)
        states = {}
        for name in NAMES:
            corridor.step(1)
            corridor.save(name)
            states[name] = complete(corridor)
        for name in NAMES + NAMES[::-1]:
            corridor.restore(name)
            self.assertEqual(states[name], complete(corridor))

    def test_before_and_after_undo(self):
        corridor = Corridor(MIXED)
        corridor.step(2)
        corridor.turn(0)
        corridor.save("before")
        before = complete(corridor)
        corridor.undo()
        corridor.save("after")
        after = complete(corridor)
        corridor.put(0, "blue")
        for name, state in [("before", before), ("after", after), ("before", before)]:
            corridor.restore(name)
            self.assertEqual(state, complete(corridor))
        corridor.restore("after")
        self.assertIs(True, corridor.redo())
        self.assertEqual(before, complete(corridor))

    def test_saving_and_going_on_and_restoring_twice(self):
        corridor = self.begun()
        corridor.save("x")
        state = complete(corridor)
        for _ in range(2):
            # Each of these would change the snapshot if it was not a copy.
            corridor.step(3)
            corridor.put(1, "blue")
            corridor.undo()
            corridor.restore("x")
            self.assertEqual(state, complete(corridor))
            self.assertIs(True, corridor.redo())
            self.assertIs(True, corridor.redo())
            self.assertIs(False, corridor.redo())
            for _ in range(5):
                self.assertIs(True, corridor.undo())
            corridor.turn(1)
            corridor.restore("x")
            self.assertEqual(state, complete(corridor))

    def test_they_are_no_operations(self):
        corridor = self.begun()
        before = complete(corridor)
        corridor.save("x")
        self.assertEqual(before, complete(corridor))
        corridor.restore("x")
        self.assertEqual(before, complete(corridor))

    def test_they_are_not_part_of_the_state(self):
        corridor = Corridor(SWEEP)
        corridor.save("old")
        corridor.step(1)
        corridor.save("new")
        corridor.undo()
        corridor.restore("new")
        self.assertEqual(1, corridor.passed)
        corridor.restore("old")
        self.assertEqual(0, corridor.passed)
        # A snapshot that was saved later is still there, and so is one that replaced another.
        corridor.restore("new")
        self.assertEqual(1, corridor.passed)
        corridor.save("old")
        self.assertRaises(InvalidNumber, corridor.batch, [("step", 3), ("step", -1)])
        corridor.undo()
        corridor.restore("old")
        self.assertEqual(1, corridor.passed)


class ListsTest(CorridorCase):

    def test_new_lists(self):
        corridor = self.begun()
        before = complete(corridor)
        for name in ["robots_now", "signs_now", "sweeps", "operations"]:
            result = getattr(corridor, name)
            self.assertIs(list, type(result))
            result.reverse()
            result.append("other")
            self.assertEqual(before, complete(corridor))
        self.assertTrue(all(type(robot) is tuple for robot in corridor.robots_now))

    def test_results(self):
        corridor = Corridor(MIXED)
        expected = Ledger(MIXED).execute(("step", 4))
        for _ in range(2):
            rows = corridor.step(4)
            self.assertEqual(expected, rows)
            before = complete(corridor)
            for row in rows:
                self.assertIs(list, type(row))
                row.clear()
            rows.clear()
            self.assertEqual(before, complete(corridor))
            corridor.undo()

    def test_two_corridors(self):
        one, two = Corridor(MIXED), Corridor(MIXED)
        one.save("x")
        before = complete(two)
        one.step(3)
        one.put(0, "blue")
        one.turn(0)
        one.undo()
        self.assertEqual(before, complete(two))
        self.assertRaises(UnknownName, two.restore, "x")
        two.step(1)
        two.save("x")
        one.restore("x")
        self.assertEqual([0, 1], [one.passed, two.passed])


class RandomTest(CorridorCase):
    """Random operations, compared with executing all operations in effect from the beginning."""

    def test_operations(self):
        chance = random.Random(47)
        for _ in range(100):
            plan = random_plan(chance)
            with self.subTest(plan):
                self.check(chance, Corridor(plan), Ledger(plan), signs_of(plan))

    def check(self, chance, corridor, ledger, signs):
        saved = {}
        for _ in range(40):
            operation = self.operation(chance, corridor, signs)
            word, *arguments = operation
            if word == "save":
                corridor.save(*arguments)
                saved[arguments[0]] = (list(ledger.done), list(ledger.undone))
            elif word == "restore" and arguments[0] not in saved:
                self.assertRaises(UnknownName, corridor.restore, *arguments)
            elif word == "restore":
                corridor.restore(*arguments)
                ledger.done, ledger.undone = map(list, saved[arguments[0]])
            else:
                self.assertEqual(ledger.execute(operation), getattr(corridor, word)(*arguments))
            self.assertEqual(ledger.told()[:-1], told(corridor))

    def operation(self, chance, corridor, signs):
        return chance.choice([
            ("step", chance.randint(0, 6)),
            ("put", chance.randrange(len(corridor.signs_now)), chance.choice(signs)),
            ("turn", chance.randrange(len(corridor.robots_now))), ("undo",), ("undo",), ("redo",),
            ("save", chance.choice("abc")), ("restore", chance.choice("abc")),
        ])


if __name__ == "__main__":
    unittest.main()
