"""Lists of operations: batch and replay."""

import copy
import random
import unittest

from sweeprota.corridor import Corridor
from sweeprota.errors import CheckFault, InvalidNumber, InvalidOperation, SyntaxFault, UnknownSign
from sweeprota.formatter import signs_of
from tests.helpers import CHECK_WRONG, NO_NUMBERS, SWEEP, SYNTAX_WRONG, TOO_LONG_BARE, FaultCase, random_plan
from tests.model import Ledger
from tests.test_corridor import MIXED, NO_SIGNS, complete, told

GOOD = [
    ("step", 2), ("put", 0, "blue"), ("turn", 1), ("undo",), ("redo",), ("step", 0), ("undo",), ("undo",), ("redo",),
    ("put", 2, "no"), ("redo",), ("step", 500),
]
NO_LISTS = [None, True, 0, "", "undo", (), (("undo",),), ("undo",)]
MALFORMED = [
    # No tuple.
    ["undo"], ["step", 1], [], None, True, False, 0, 7, "undo", "", "step",
    # No word, or one that does not exist.
    (), ("wait",), ("",), ("STEP", 1), ("step ", 1), ("save", "x"), ("restore", "x"), ("batch", []), ("replay", []),
    ("passed",), ("wait", 1), ("wait", 1, 2), ("left",),
    # Another value in place of the word.
    (1,), (0, 1), (None,), (True,), (False, 1), (("undo",),), (["undo"],), (["step"], 1), ([], 1), (1, "step"),
    # Too few and too many arguments.
    ("step",), ("step", 1, 1), ("put",), ("put", 0), ("put", 0, "no", 1), ("turn",), ("turn", 0, 0), ("undo", 1),
    ("undo", None), ("undo", ()), ("redo", 0), ("redo", "redo"), ("undo", "redo"), ("step", 1, 2, 3),
]
FAILING = (
    [(InvalidNumber, ("step", count)) for count in [-1, 501, 10 ** 18] + NO_NUMBERS]
    + [(InvalidNumber, ("put", tile, sign)) for tile in [-1, 4] + NO_NUMBERS for sign in ["no", "green", None]]
    + [(UnknownSign, ("put", 0, sign)) for sign in NO_SIGNS]
    + [(InvalidNumber, ("turn", number)) for number in [-1, 3] + NO_NUMBERS]
)


def begun():
    """A corridor with two operations in effect, and two to redo."""
    corridor = Corridor(MIXED)
    corridor.step(3)
    corridor.put(1, "no")
    corridor.turn(2)
    corridor.step(1)
    corridor.undo()
    corridor.undo()
    return corridor


def with_wrong(wrong):
    """Lists with a wrong operation at each position, and good ones around it."""
    for at in range(len(GOOD)):
        yield at, GOOD[:at] + [wrong] + GOOD[at + 1:]
    yield len(GOOD), GOOD + [wrong]


class BatchTest(FaultCase, unittest.TestCase):

    def assert_refused(self, error, attributes, corridor, operations):
        before = complete(corridor)
        self.assert_fault(error, attributes, corridor.batch, operations)
        self.assertEqual(before, complete(corridor), operations)

    def test_every_kind(self):
        for corridor, ledger in [(Corridor(MIXED), Ledger(MIXED)), (begun(), None)]:
            if ledger is None:
                ledger = Ledger(MIXED)
                ledger.done, ledger.undone = [("step", 3), ("put", 1, "no")], [("step", 1), ("turn", 2)]
            expected = [ledger.execute(operation) for operation in GOOD]
            self.assertEqual(expected, corridor.batch(GOOD))
            self.assertEqual(ledger.told()[:-1], told(corridor))
        self.assertEqual([True, True, True, False], [expected[at] for at in [3, 4, 6, 10]])

    def test_kinds_of_results(self):
        corridor = Corridor(SWEEP)
        operations = [("put", 1, "red"), ("turn", 0), ("step", 2)] + [("undo",)] * 4 + [("redo",)]
        self.assertEqual(["no", 0, [[0], [0]], True, True, True, False, True], corridor.batch(operations))
        self.assertEqual(["put"], corridor.operations)

    def test_none(self):
        corridor = begun()
        before = complete(corridor)
        self.assertEqual([], corridor.batch([]))
        self.assertEqual(before, complete(corridor))

    def test_undo_and_redo_across_a_batch(self):
        corridor = begun()
        before = complete(corridor)
        # Undone before the batch, and redone in it.
        self.assertEqual([True, True, False], corridor.batch([("redo",), ("redo",), ("redo",)]))
        self.assertEqual(["step", "put", "turn", "step"], corridor.operations)
        self.assertEqual([True] * 4 + [False], corridor.batch([("undo",)] * 5))
        self.assertEqual([True, True], corridor.batch([("redo",)] * 2))
        self.assertEqual(before, complete(corridor))
        # A batch is no operation of its own.
        corridor.batch([("step", 1), ("turn", 0)])
        self.assertEqual(["step", "put", "step", "turn"], corridor.operations)
        corridor.undo()
        self.assertEqual(["step", "put", "step"], corridor.operations)

    def test_malformed_entries(self):
        corridor = begun()
        for wrong in MALFORMED:
            for at, operations in with_wrong(wrong):
                self.assert_refused(InvalidOperation, {"place": at}, corridor, operations)
            self.assert_refused(InvalidOperation, {"place": 0}, corridor, [wrong])

    def test_the_first_malformed_entry(self):
        corridor = begun()
        for wrong in MALFORMED:
            self.assert_refused(InvalidOperation, {"place": 1}, corridor, [("undo",), wrong, ("undo",), ("step",)])
            self.assert_refused(InvalidOperation, {"place": 1}, corridor, [("redo",), ("turn",), wrong])

    def test_malformed_entries_are_found_before_anything_is_executed(self):
        corridor = begun()
        for error, failing in FAILING:
            self.assert_refused(InvalidOperation, {"place": 2}, corridor, [failing, ("undo",), ("undo", 1)])
            self.assert_refused(error, {}, corridor, [failing, ("undo",), ("redo",)])

    def test_an_operation_fails(self):
        for corridor in [Corridor(MIXED), begun()]:
            for error, failing in FAILING:
                self.assert_refused(error, {}, corridor, [failing])
                self.assert_refused(error, {}, corridor, [("undo",), failing, ("step", -1)])
        for error, failing in [FAILING[0], (UnknownSign, ("put", 0, "green")), FAILING[-1]]:
            for _, operations in with_wrong(failing):
                self.assert_refused(error, {}, corridor, operations)

    def test_the_first_operation_that_fails(self):
        corridor = begun()
        self.assert_refused(UnknownSign, {}, corridor, [("put", 0, "green"), ("step", -1)])
        self.assert_refused(InvalidNumber, {}, corridor, [("step", -1), ("put", 0, "green")])

    def test_to_redo_after_a_batch_that_failed(self):
        corridor = begun()
        lists = [[("step", -1)], [("step", 1), ("turn", 9)], [("undo",), ("undo",), ("turn", 0), ("step", -1)]]
        for operations in lists:
            self.assertRaises(InvalidNumber, corridor.batch, operations)
        self.assertEqual([True, True, False], [corridor.redo(), corridor.redo(), corridor.redo()])
        self.assertEqual(["step", "put", "turn", "step"], corridor.operations)

    def test_no_list(self):
        corridor = begun()
        for operations in NO_LISTS:
            self.assert_refused(InvalidOperation, {"place": 0}, corridor, operations)

    def test_the_argument_stays(self):
        corridor = begun()
        for operations in [GOOD, [("step", 1), ("step", -1)], [("step", 1), ["undo"]]]:
            operations = copy.deepcopy(operations)
            before = copy.deepcopy(operations)
            try:
                corridor.batch(operations)
            except (InvalidNumber, InvalidOperation):
                pass
            self.assertEqual(before, operations)

    def test_new_lists(self):
        corridor = Corridor(SWEEP)
        operations = [("step", 2), ("step", 1)]
        results = corridor.batch(operations)
        before = complete(corridor)
        self.assertEqual([[[0], [1]], [[2]]], results)
        results[0][0].clear()
        results[0].clear()
        results.clear()
        operations.clear()
        self.assertEqual(before, complete(corridor))

    def test_snapshots_stay(self):
        corridor = begun()
        corridor.save("x")
        before = complete(corridor)
        corridor.batch([("step", 1), ("undo",), ("undo",)])
        self.assertRaises(InvalidNumber, corridor.batch, [("step", 1), ("turn", 9)])
        self.assertRaises(InvalidOperation, corridor.batch, [("step", 1), ("turn",)])
        corridor.restore("x")
        self.assertEqual(before, complete(corridor))


class ReplayTest(FaultCase, unittest.TestCase):

    def assert_place(self, place, operations):
        before = copy.deepcopy(operations)
        self.assert_fault(InvalidOperation, {"place": place}, Corridor.replay, MIXED, operations)
        self.assertEqual(before, operations)

    def test_every_kind(self):
        ledger = Ledger(MIXED)
        for operation in GOOD:
            ledger.execute(operation)
        operations = list(GOOD)
        corridor = Corridor.replay(MIXED, operations)
        self.assertIs(Corridor, type(corridor))
        self.assertEqual(ledger.told()[:-1], told(corridor))
        self.assertEqual(GOOD, operations)
        operations.clear()
        self.assertEqual(ledger.told()[:-1], told(corridor))
        self.assertEqual(500, len(corridor.step(500)))

    def test_none(self):
        self.assertEqual(complete(Corridor(MIXED)), complete(Corridor.replay(MIXED, [])))

    def test_undo_and_redo_with_nothing_to_do(self):
        corridor = Corridor.replay(SWEEP, [("undo",), ("redo",), ("step", 1), ("redo",)])
        self.assertEqual(["step"], corridor.operations)

    def test_to_redo_behind_a_replay(self):
        corridor = Corridor.replay(SWEEP, [("step", 1), ("turn", 0), ("undo",)])
        self.assertEqual([True, False], [corridor.redo(), corridor.redo()])
        self.assertEqual(["step", "turn"], corridor.operations)

    def test_called_on_a_corridor(self):
        corridor = begun()
        before = complete(corridor)
        other = corridor.replay(SWEEP, [("step", 3)])
        self.assertEqual(before, complete(corridor))
        self.assertEqual((3, ["red"] * 3), (other.passed, other.signs_now))

    def test_malformed_entries(self):
        for wrong in MALFORMED:
            for at, operations in with_wrong(wrong):
                self.assert_place(at, operations)

    def test_entries_that_fail(self):
        for _, failing in FAILING:
            for at in [0, 1, 5]:
                self.assert_place(at, GOOD[:at] + [failing] + GOOD[at:])
        for _, failing in [FAILING[0], FAILING[-1], (UnknownSign, ("put", 0, "green"))]:
            for at, operations in with_wrong(failing):
                self.assert_place(at, operations)

    def test_whichever_stands_first(self):
        for wrong in MALFORMED:
            self.assert_place(1, [("step", 1), ("step", -1), wrong])
            self.assert_place(1, [("step", 1), wrong, ("step", -1)])
            self.assert_place(0, [wrong, ("put", 0, "green")])
        self.assert_place(0, [("turn", 9), ("step", -1), ("undo", 1)])

    def test_no_list(self):
        for operations in NO_LISTS:
            self.assert_place(0, operations)

    def test_errors_of_the_plan_come_first(self):
        for operations in [None, [()], [("step", -1)], []]:
            for plan in [SYNTAX_WRONG, None, True, [SWEEP]]:
                self.assertRaises(SyntaxFault, Corridor.replay, plan, operations)
            self.assertRaises(CheckFault, Corridor.replay, CHECK_WRONG, operations)

    def test_plans_that_do_not_repeat_early(self):
        corridor = Corridor.replay(TOO_LONG_BARE, [("step", 500)] * 50)
        self.assertEqual((25000, 50), (corridor.passed, len(corridor.operations)))


class AgreementTest(unittest.TestCase):
    """Operations one by one, as a batch, in several batches, replayed, and from a snapshot."""

    def test_random_operations(self):
        chance = random.Random(53)
        for _ in range(100):
            plan = random_plan(chance)
            ledger = Ledger(plan)
            operations = self.operations(chance, Corridor(plan), signs_of(plan))
            with self.subTest(plan, operations=operations):
                expected = [ledger.execute(operation) for operation in operations]
                self.check(chance, plan, operations, expected, ledger.told()[:-1])

    def operations(self, chance, corridor, signs):
        return [
            chance.choice([
                ("step", chance.randint(0, 9)),
                ("put", chance.randrange(len(corridor.signs_now)), chance.choice(signs)),
                ("turn", chance.randrange(len(corridor.robots_now))),
                ("undo",), ("redo",),
            ])
            for _ in range(chance.randint(0, 30))
        ]

    def check(self, chance, plan, operations, expected, state):
        singly, whole, parts = Corridor(plan), Corridor(plan), Corridor(plan)
        results = [getattr(singly, word)(*arguments) for word, *arguments in operations]
        cut = chance.randint(0, len(operations))
        first = parts.batch(operations[:cut])
        parts.save("cut")
        for _ in range(2):
            self.assertEqual(expected, first + parts.batch(operations[cut:]))
            self.assertEqual(state, told(parts))
            parts.restore("cut")
        parts.batch(operations[cut:])
        self.assertEqual([expected, expected], [results, whole.batch(operations)])
        replayed = Corridor.replay(plan, operations)
        for corridor in [singly, whole, parts, replayed]:
            self.assertEqual(state, told(corridor))
            self.assertEqual(complete(singly), complete(corridor))


if __name__ == "__main__":
    unittest.main()
