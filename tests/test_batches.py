"""Point 16: snapshots, batches and recorded operations."""

import random
import unittest

from fuelshare.errors import (
    CheckFault, InvalidArguments, InvalidFuel, InvalidName, InvalidOperation, InvalidShare, SyntaxFault, UnknownName,
)
from fuelshare.workspace import Workspace, replay
from tests.helper import (
    EXAMPLE, NO_CELLS, RIGHT, WRONG_FUEL, WRONG_NAMES, Faults, WorkspaceModel, call_operation, error_of,
    make_operation, replay_model, tell_workspace,
)

COUNTS = "def f(n) { put A = A + n; emit A; return n; }"

ORDINARY = [
    ("load", "a", COUNTS), ("pour", 30), ("run", "a", (3,), 1, 2), ("undo",), ("redo",), ("run", "a", (4,), 1, 1),
    ("load", "b", RIGHT), ("unload", "a"), ("undo",), ("run", "b", (9,), 1, 9),
]
RESULTS = [None, 50, ("done", 3), True, True, ("done", 4), None, None, True, ("done", 9)]

MALFORMED = [
    None, True, 0, 7, "undo", "", (), [], ["undo"], ["pour", 5], ("undo", 1), ("undo", ()), ("redo", None), ("load",),
    ("load", "a"), ("load", "a", RIGHT, 1), ("unload",), ("unload", "a", "b"), ("pour",), ("pour", 5, 5), ("run",),
    ("run", "a", (), 1), ("run", "a", (), 1, 1, 1), ("run", "a", 1, 2, 3, 4), ("stop",), ("", 5), (None,), (0,),
    (True,),
    (("undo",),), (["undo"],), ([], 5), ("Undo",), ("undo ",), ("save", "a"), ("restore", "a"),
    ("load_program", "a", RIGHT),
    ("run_program", "a", (), 1, 1), ("batch", []), ("gauge",), ("pour", 5, None), (5, "pour"), ("load", "a", None),
]

# Operations that fail in a workspace with a level of 20 and a program `a` of one parameter.
FAILING = [
    (InvalidName, ("load", "A", RIGHT)), (SyntaxFault, ("load", "b", "def")),
    (CheckFault, ("load", "b", "def f(a, a) {}")),
    (UnknownName, ("unload", "b")), (InvalidFuel, ("pour", 10001)), (InvalidFuel, ("pour", None)),
    (InvalidFuel, ("pour", 10000)), (InvalidFuel, ("pour", True)), (UnknownName, ("run", "b", (5,), 1, 1)),
    (InvalidArguments, ("run", "a", (), 1, 1)), (InvalidArguments, ("run", "a", [5], 1, 1)),
    (InvalidShare, ("run", "a", (5,), 2, 1)), (InvalidShare, ("run", "a", (5,), True, 1)),
]
FAILING += [(InvalidName, ("load", name, RIGHT)) for name in WRONG_NAMES]
FAILING += [(UnknownName, ("unload", name)) for name in WRONG_NAMES]
FAILING += [(UnknownName, ("run", name, (5,), 1, 1)) for name in WRONG_NAMES]

NO_LISTS = [None, True, False, 0, 1, "", "undo", (), (("undo",),), ("undo",)]


def history_of(workspace):
    """Returns what a workspace tells, after undoing and after repeating all that it can; it is as before afterwards."""
    workspace.save("history")
    told = [tell_workspace(workspace)]
    while workspace.undo():
        told.append(tell_workspace(workspace))
    workspace.restore("history")
    while workspace.redo():
        told.append(tell_workspace(workspace))
    workspace.restore("history")
    return told


class Snapshots(unittest.TestCase):
    def test_the_example_of_the_interface(self):
        workspace = Workspace(20)
        workspace.save("a")
        workspace.pour(5)
        workspace.restore("a")
        self.assertEqual(workspace.gauge(), 20)

    def test_the_complete_state_is_restored(self):
        workspace = replay(20, ORDINARY + [("undo",), ("undo",)])
        told = history_of(workspace)
        self.assertIsNone(workspace.save("set"))
        for operation in (("pour", 5), ("load", "a", RIGHT), ("run", "a", (5,), 1, 1), ("undo",), ("unload", "a"),
                          ("undo",)):
            call_operation(workspace, operation)
        self.assertIsNone(workspace.restore("set"))
        self.assertEqual(history_of(workspace), told)

    def test_what_undo_and_redo_would_do_is_restored(self):
        workspace = Workspace(20)
        workspace.pour(1)
        workspace.pour(2)
        workspace.undo()
        workspace.save("a")
        workspace.pour(100)
        self.assertEqual([workspace.redo(), workspace.gauge()], [False, 121])
        workspace.restore("a")
        self.assertEqual([workspace.redo(), workspace.gauge(), workspace.redo()], [True, 23, False])
        workspace.restore("a")
        self.assertEqual([workspace.undo(), workspace.gauge(), workspace.undo()], [True, 20, False])
        self.assertEqual([workspace.redo(), workspace.redo(), workspace.redo()], [True, True, False])
        self.assertEqual(workspace.gauge(), 23)

    def test_a_snapshot_can_be_restored_again_and_again(self):
        workspace = replay(20, [("pour", 1), ("pour", 2), ("undo",)])
        workspace.save("a")
        told = history_of(workspace)
        for operation in (("pour", 7), ("undo",), ("redo",), ("load", "b", RIGHT)):
            workspace.restore("a")
            call_operation(workspace, operation)
            call_operation(workspace, operation)
            workspace.restore("a")
            self.assertEqual(history_of(workspace), told)

    def test_snapshots_are_not_part_of_the_state(self):
        workspace = Workspace(20)
        workspace.save("a")
        workspace.pour(5)
        workspace.save("b")
        workspace.restore("a")
        self.assertEqual([workspace.gauge(), workspace.operations(), workspace.redo()], [20, [], False])
        workspace.restore("b")
        self.assertEqual([workspace.gauge(), workspace.operations()], [25, ["pour"]])
        workspace.undo()
        workspace.undo()
        workspace.restore("b")
        self.assertEqual(workspace.gauge(), 25)

    def test_a_snapshot_of_the_same_name_is_replaced(self):
        workspace = Workspace(20)
        for amount in (1, 2, 3):
            workspace.pour(amount)
            workspace.save("a")
        workspace.pour(4)
        workspace.restore("a")
        self.assertEqual(workspace.gauge(), 26)

    def test_saving_and_restoring_are_no_operations(self):
        workspace = Workspace(20)
        workspace.pour(5)
        workspace.save("a")
        workspace.undo()
        workspace.save("b")
        self.assertEqual(workspace.operations(), [])
        self.assertIs(workspace.redo(), True)
        workspace.restore("b")
        workspace.restore("a")
        self.assertEqual(workspace.operations(), ["pour"])

    def test_programs_and_snapshots_have_names_of_their_own(self):
        workspace = Workspace(20)
        workspace.load_program("a", RIGHT)
        workspace.save("b")
        with self.assertRaises(UnknownName):
            workspace.restore("a")
        with self.assertRaises(UnknownName):
            workspace.unload("b")

    def test_all_names(self):
        workspace = Workspace(20)
        names = ["a", "z", "abcdefgh", "zzzzzzzz", "def", "share"]
        for name in names:
            workspace.save(name)
            workspace.pour(1)
        for at, name in enumerate(names):
            workspace.restore(name)
            self.assertEqual(workspace.gauge(), 20 + at)

    def test_workspaces_have_snapshots_of_their_own(self):
        Workspace(20).save("a")
        with self.assertRaises(UnknownName):
            Workspace(20).restore("a")


class Batches(Faults):
    def setUp(self):
        self.workspace = replay(20, [("load", "a", COUNTS), ("pour", 7), ("undo",)])
        self.before = history_of(self.workspace)

    def refuse(self, error, operations):
        """A batch must raise this error and change nothing; returns its attributes."""
        attributes = self.check(error, self.workspace.batch, operations)
        self.assertEqual(history_of(self.workspace), self.before)
        return attributes

    def test_the_examples_of_the_interface(self):
        workspace = Workspace(20)
        self.assertEqual(workspace.batch([("pour", 5), ("undo",), ("undo",)]), [25, True, False])
        self.assertEqual(self.refuse(InvalidOperation, [("pour", 5), ("pour",)]), {"position": 1})

    def test_all_results(self):
        workspace = Workspace(20)
        self.assertEqual(workspace.batch(ORDINARY), RESULTS)
        alone = Workspace(20)
        self.assertEqual([call_operation(alone, operation) for operation in ORDINARY], RESULTS)
        self.assertEqual(history_of(workspace), history_of(alone))

    def test_each_entry_is_an_operation_of_its_own(self):
        workspace = Workspace(20)
        workspace.batch([("pour", 1), ("pour", 2), ("load", "a", RIGHT)])
        self.assertEqual(workspace.operations(), ["pour", "pour", "load"])
        self.assertEqual([workspace.undo(), workspace.undo(), workspace.gauge()], [True, True, 21])
        self.assertEqual([workspace.redo(), workspace.gauge()], [True, 23])

    def test_batches_go_on_with_the_history(self):
        self.assertEqual(self.workspace.batch([("redo",), ("redo",)]), [True, False])
        self.assertEqual(self.workspace.gauge(), 27)
        self.assertEqual(self.workspace.batch([("undo",), ("undo",), ("undo",), ("redo",)]), [True, True, False, True])
        self.assertEqual(self.workspace.operations(), ["load"])

    def test_an_empty_batch(self):
        self.assertEqual(self.workspace.batch([]), [])
        self.assertEqual(history_of(self.workspace), self.before)

    def test_a_run_that_runs_dry_does_not_fail(self):
        workspace = Workspace(1)
        self.assertEqual(workspace.batch([("load", "a", COUNTS), ("run", "a", (1,), 1, 1), ("undo",)]),
                         [None, ("dry", None), True])

    def test_no_lists(self):
        for operations in NO_LISTS:
            self.assertEqual(self.refuse(InvalidOperation, operations), {"position": 0})

    def test_malformed_entries(self):
        for entry in MALFORMED:
            self.assertEqual(self.refuse(InvalidOperation, [entry]), {"position": 0}, entry)
            self.assertEqual(self.refuse(InvalidOperation, [("undo",), ("pour", 1), entry]), {"position": 2}, entry)
            self.assertEqual(self.refuse(InvalidOperation, [("pour", 1), entry, None, entry]), {"position": 1}, entry)

    def test_malformed_entries_are_found_before_anything_is_executed(self):
        for _, operation in FAILING:
            self.assertEqual(self.refuse(InvalidOperation, [operation, ("pour", 1), ("pour",)]), {"position": 2})

    def test_the_error_of_the_first_operation_that_fails(self):
        for error, operation in FAILING:
            self.refuse(error, [operation])
            self.refuse(error, [("pour", 1), ("redo",), operation])
            self.refuse(error, [("redo",), ("undo",), ("undo",), ("redo",), operation, ("unload", "zzz")])
            self.refuse(error, [("run", "a", (1,), 1, 2), operation, ("pour", -1)])

    def test_the_attributes_of_errors(self):
        self.assertEqual(self.refuse(CheckFault, [("pour", 1), ("load", "b", "def f() {}\ndef f() {}")]),
                         {"reason": "duplicate", "line": 1, "column": 4})
        self.assertEqual(self.refuse(SyntaxFault, [("pour", 1), ("load", "b", "def f() { 7 }")]),
                         {"line": 0, "column": 10})

    def test_operations_fail_in_the_state_behind_those_before(self):
        self.refuse(UnknownName, [("run", "a", (1,), 1, 2), ("unload", "a"), ("run", "a", (1,), 1, 2)])
        self.refuse(UnknownName, [("undo",), ("run", "a", (1,), 1, 2)])
        self.refuse(InvalidFuel, [("pour", 9980), ("pour", 1)])
        self.assertEqual(self.workspace.batch([("pour", 9980), ("run", "a", (1,), 1, 1), ("pour", 1)]),
                         [10000, ("done", 1), 9998])

    def test_the_snapshots_stay_behind_a_failure(self):
        self.workspace.save("a")
        self.refuse(UnknownName, [("pour", 1), ("unload", "b")])
        self.workspace.pour(1)
        self.workspace.restore("a")
        self.assertEqual(history_of(self.workspace), self.before)

    def test_nothing_is_modified(self):
        operations = list(ORDINARY)
        Workspace(20).batch(operations)
        self.assertEqual(operations, ORDINARY)
        arguments = [5]
        operations = [("pour", 1), ("run", "a", arguments, 1, 1)]
        self.refuse(InvalidArguments, operations)
        self.assertEqual(operations, [("pour", 1), ("run", "a", [5], 1, 1)])

    def test_batches_that_are_made_up(self):
        failed = 0
        for seed in range(300):
            chance = random.Random(seed)
            workspace, model = Workspace(200), WorkspaceModel(200)
            for _ in range(4):
                operations = [make_operation(chance) for _ in range(chance.choice([0, 1, 2, 4]))]
                results = []
                expected = error_of(lambda: results.append(model.batch(operations)))
                self.assertEqual(error_of(lambda: results.append(workspace.batch(operations))), expected)
                self.assertEqual(results[:1], results[1:])
                self.assertEqual(tell_workspace(workspace), model.tell())
                failed += expected is not None
            while model.execute(("redo",)):
                self.assertIs(workspace.redo(), True)
            self.assertIs(workspace.redo(), False)
            self.assertEqual(tell_workspace(workspace), model.tell())
        self.assertTrue(300 < failed < 900)


class Replays(Faults):
    def test_the_example_of_the_interface(self):
        self.assertEqual(replay(20, [("pour", 5)]).gauge(), 25)

    def test_the_workspace_behind_the_operations(self):
        workspace = Workspace(20)
        workspace.batch(ORDINARY)
        replayed = replay(20, ORDINARY)
        self.assertIs(type(replayed), Workspace)
        self.assertEqual(history_of(replayed), history_of(workspace))
        self.assertEqual(tell_workspace(replay(20, [])), ([], 20, NO_CELLS, [], []))

    def test_each_replay_has_its_own_workspace(self):
        former, latter = replay(20, ORDINARY), replay(20, ORDINARY)
        told = history_of(latter)
        former.pour(5)
        former.unload("b")
        former.save("a")
        self.assertEqual(history_of(latter), told)
        self.check(UnknownName, latter.restore, "a")

    def test_fuel(self):
        for fuel in WRONG_FUEL:
            for operations in ([], ORDINARY, None, [None], [("unload", "a")]):
                self.check(InvalidFuel, replay, fuel, operations)
        self.assertEqual([replay(0, []).gauge(), replay(10000, []).gauge()], [0, 10000])

    def test_no_lists(self):
        for operations in NO_LISTS:
            self.assertEqual(self.check(InvalidOperation, replay, 20, operations), {"position": 0})

    def test_malformed_entries(self):
        for entry in MALFORMED:
            self.assertEqual(self.check(InvalidOperation, replay, 20, [entry]), {"position": 0}, entry)
            operations = ORDINARY + [entry, None]
            self.assertEqual(self.check(InvalidOperation, replay, 20, operations), {"position": len(ORDINARY)}, entry)

    def test_operations_that_fail(self):
        start = [("load", "a", COUNTS)]
        for _, operation in FAILING:
            self.assertEqual(self.check(InvalidOperation, replay, 20, start + [operation]), {"position": 1}, operation)
            operations = start + [("undo",), ("redo",), operation, ("pour",)]
            self.assertEqual(self.check(InvalidOperation, replay, 20, operations), {"position": 3}, operation)

    def test_the_first_of_several(self):
        operations = [("pour", 1), ("pour", 10000), ("pour",)]
        self.assertEqual(self.check(InvalidOperation, replay, 20, operations), {"position": 1})
        operations = [("pour", 1), ("pour",), ("pour", 10000)]
        self.assertEqual(self.check(InvalidOperation, replay, 20, operations), {"position": 1})

    def test_the_only_attribute_is_the_position(self):
        with self.assertRaises(InvalidOperation) as caught:
            replay(20, [("undo",), ("load", "a", "def")])
        self.assertEqual(vars(caught.exception), {"position": 1})

    def test_nothing_is_modified(self):
        operations = list(ORDINARY)
        replay(20, operations)
        self.assertEqual(operations, ORDINARY)

    def test_replays_that_are_made_up(self):
        failed = 0
        for seed in range(300):
            chance = random.Random(seed)
            operations = [make_operation(chance) for _ in range(chance.choice([1, 2, 5]))]
            models = []
            error = error_of(lambda: models.append(replay_model(100, operations)))
            self.assertEqual(error_of(replay, 100, operations), error)
            if error is None:
                self.assertEqual(tell_workspace(replay(100, operations)), models[0].tell())
            failed += error is not None
        self.assertTrue(50 < failed < 250)


if __name__ == "__main__":
    unittest.main()
