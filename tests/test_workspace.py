"""Point 15: the operations of workspaces, undo and redo."""

import random
import unittest

from fuelshare.errors import (
    CheckFault, InvalidArguments, InvalidFuel, InvalidName, InvalidShare, SyntaxFault, UnknownName,
)
from fuelshare.machine import run
from fuelshare.workspace import Workspace
from tests.helper import (
    EXAMPLE, FAULTS, NO_CELLS, RIGHT, WRONG_ARGUMENTS, WRONG_FUEL, WRONG_NAMES, WRONG_SHARES, Faults, WorkspaceModel,
    call_operation, error_of, make_operation, make_runs, tell_workspace,
)

COUNTS = "def f(n) { put A = A + n; put H = 9; emit A; emit n; return A + 1; }"
LOOP = "def f() { put A = 5; emit 6; loop 999999 {} }"


def cells_with(**values):
    """Returns cells that are 0, some of them left aside."""
    return tuple(values.get(cell, 0) for cell in "ABCDEFGH")


class Operations(unittest.TestCase):
    def test_the_examples_of_the_interface(self):
        workspace = Workspace(20)
        workspace.load_program("a", EXAMPLE)
        self.assertEqual(workspace.run_program("a", (5,), 1, 2), ("done", 6))
        self.assertEqual((workspace.gauge(), workspace.log()), (15, [5]))
        workspace = Workspace(20)
        workspace.pour(5)
        self.assertEqual([workspace.undo(), workspace.gauge(), workspace.undo()], [True, 20, False])
        workspace = Workspace(20)
        workspace.pour(5)
        workspace.undo()
        self.assertEqual([workspace.redo(), workspace.gauge(), workspace.operations()], [True, 25, ["pour"]])
        workspace = Workspace(20)
        workspace.load_program("a", "def f() {}")
        self.assertEqual(workspace.programs(), [("a", "def f() {}")])
        self.assertEqual(Workspace(20).cell_values(), NO_CELLS)

    def test_a_new_workspace(self):
        for fuel in (0, 1, 10000):
            workspace = Workspace(fuel)
            self.assertEqual(tell_workspace(workspace), ([], fuel, NO_CELLS, [], []))
            self.assertEqual([workspace.undo(), workspace.redo()], [False, False])

    def test_load_program(self):
        workspace = Workspace(20)
        sources = {"b": RIGHT, "a": "\n" + EXAMPLE + " \n\n", "zzzzzzzz": "def  f ( ) { }", "ab": COUNTS}
        for name, source in sources.items():
            self.assertIsNone(workspace.load_program(name, source))
        self.assertEqual(workspace.programs(), [(name, sources[name]) for name in ("a", "ab", "b", "zzzzzzzz")])
        self.assertEqual(tell_workspace(workspace)[1:], (20, NO_CELLS, [], ["load"] * 4))

    def test_a_program_of_the_same_name_is_replaced(self):
        workspace = Workspace(20)
        for source in (RIGHT, LOOP, EXAMPLE, EXAMPLE):
            workspace.load_program("a", source)
            self.assertEqual(workspace.programs(), [("a", source)])
        self.assertEqual(workspace.run_program("a", (5,), 1, 2), ("done", 6))
        self.assertEqual(workspace.operations(), ["load"] * 4 + ["run"])

    def test_names_can_be_keywords(self):
        workspace = Workspace(200)
        for name in "def set put emit return if else loop call share load run undo".split():
            workspace.load_program(name, RIGHT)
            self.assertEqual(workspace.run_program(name, (3,), 1, 9), ("done", 3))
            self.assertIsNone(workspace.unload(name))
        self.assertEqual(workspace.programs(), [])

    def test_unload(self):
        workspace = Workspace(20)
        for name in ("a", "b", "c"):
            workspace.load_program(name, RIGHT)
        self.assertIsNone(workspace.unload("b"))
        self.assertEqual(workspace.programs(), [("a", RIGHT), ("c", RIGHT)])
        self.assertEqual(workspace.operations(), ["load", "load", "load", "unload"])

    def test_pour(self):
        workspace = Workspace(20)
        self.assertEqual([workspace.pour(0), workspace.pour(5), workspace.pour(9975)], [20, 25, 10000])
        self.assertEqual([workspace.pour(0), Workspace(0).pour(10000)], [10000, 10000])
        self.assertEqual(workspace.operations(), ["pour"] * 4)

    def test_runs_use_the_cells_of_the_workspace(self):
        workspace = Workspace(100)
        workspace.load_program("a", COUNTS)
        self.assertEqual(workspace.run_program("a", (3,), 1, 1), ("done", 4))
        self.assertEqual(tell_workspace(workspace)[1:4], (95, cells_with(A=3, H=9), [3, 3]))
        self.assertEqual(workspace.run_program("a", (4,), 1, 1), ("done", 8))
        self.assertEqual(tell_workspace(workspace)[1:4], (90, cells_with(A=7, H=9), [3, 3, 7, 4]))
        self.assertEqual(workspace.operations(), ["load", "run", "run"])

    def test_a_run_that_runs_dry_is_an_operation(self):
        workspace = Workspace(100)
        workspace.load_program("a", COUNTS)
        workspace.load_program("b", LOOP)
        workspace.run_program("a", (3,), 1, 1)
        self.assertEqual(workspace.run_program("b", (), 1, 3), ("dry", None))
        self.assertEqual(tell_workspace(workspace)[1:],
                         (95 - 31, cells_with(A=3, H=9), [3, 3], ["load", "load", "run", "run"]))
        self.assertIs(workspace.undo(), True)
        self.assertEqual(tell_workspace(workspace)[1:],
                         (95, cells_with(A=3, H=9), [3, 3], ["load", "load", "run"]))

    def test_shares_are_rounded_down(self):
        for whole in range(1, 10):
            for part in range(1, whole + 1):
                workspace = Workspace(1003)
                workspace.load_program("a", LOOP)
                workspace.run_program("a", (), part, whole)
                self.assertEqual(workspace.gauge(), 1003 - part * 1003 // whole)

    def test_runs_with_the_least_fuel(self):
        workspace = Workspace(9)
        workspace.load_program("a", EXAMPLE)
        self.assertEqual(workspace.run_program("a", (5,), 4, 9), ("done", 10))
        self.assertEqual(tell_workspace(workspace)[1:4], (5, NO_CELLS, [9]))
        self.assertEqual(workspace.run_program("a", (5,), 9, 9), ("done", 6))
        self.assertEqual(tell_workspace(workspace)[1:4], (0, cells_with(A=5), [9, 5]))
        self.assertEqual(workspace.run_program("a", (5,), 1, 1), ("dry", None))
        workspace.load_program("a", "def f() {}")
        self.assertEqual(workspace.run_program("a", (), 1, 1), ("done", 0))

    def test_runs_are_like_single_runs(self):
        for source, arguments, _ in make_runs(range(80)):
            workspace = Workspace(300)
            workspace.load_program("a", source)
            level, cells, log = 300, NO_CELLS, []
            for part, whole in ((1, 2), (2, 3), (1, 1)):
                fuel = part * level // whole
                status, result, cells, output, rest = run(source, arguments, fuel, cells=cells)
                level += rest - fuel
                log += output
                self.assertEqual(workspace.run_program("a", arguments, part, whole), (status, result))
                self.assertEqual(tell_workspace(workspace)[1:4], (level, cells, log))

    def test_the_kinds_of_what_is_returned(self):
        workspace = Workspace(30)
        workspace.load_program("a", COUNTS)
        self.assertIs(type(workspace.run_program("a", (1,), 1, 1)), tuple)
        kinds = [type(part) for part in tell_workspace(workspace)]
        self.assertEqual(kinds, [list, int, tuple, list, list])


class UndoAndRedo(unittest.TestCase):
    def setUp(self):
        self.workspace = Workspace(100)
        self.told = [tell_workspace(self.workspace)]
        for operation in (("load", "a", COUNTS), ("pour", 50), ("run", "a", (3,), 1, 2), ("load", "a", LOOP),
                          ("run", "a", (), 1, 3), ("unload", "a"), ("pour", 0)):
            call_operation(self.workspace, operation)
            self.told.append(tell_workspace(self.workspace))

    def expect(self, at):
        """The workspace must be as it was behind so many operations."""
        self.assertEqual(tell_workspace(self.workspace), self.told[at])

    def test_all_operations_are_undone_and_repeated(self):
        for _ in range(3):
            for at in reversed(range(7)):
                self.assertIs(self.workspace.undo(), True)
                self.expect(at)
            self.assertIs(self.workspace.undo(), False)
            self.expect(0)
            for at in range(1, 8):
                self.assertIs(self.workspace.redo(), True)
                self.expect(at)
            self.assertIs(self.workspace.redo(), False)
            self.expect(7)

    def test_forward_and_back(self):
        for word, at in (("undo", 6), ("undo", 5), ("redo", 6), ("undo", 5), ("undo", 4), ("redo", 5), ("redo", 6),
                         ("redo", 7)):
            self.assertIs(call_operation(self.workspace, (word,)), True)
            self.expect(at)

    def test_a_new_operation_ends_what_can_be_repeated(self):
        for operation in (("load", "b", RIGHT), ("unload", "a"), ("pour", 0), ("run", "a", (3,), 1, 1)):
            workspace = Workspace(100)
            workspace.load_program("a", RIGHT)
            workspace.pour(5)
            workspace.undo()
            call_operation(workspace, operation)
            told = tell_workspace(workspace)
            self.assertIs(workspace.redo(), False)
            self.assertEqual(tell_workspace(workspace), told)
            self.assertEqual(told[4], ["load", operation[0]])
            self.assertEqual([workspace.undo(), workspace.undo(), workspace.undo()], [True, True, False])
            self.assertEqual([workspace.redo(), workspace.redo(), workspace.redo()], [True, True, False])
            self.assertEqual(tell_workspace(workspace), told)

    def test_a_run_that_runs_dry_ends_what_can_be_repeated(self):
        workspace = Workspace(100)
        workspace.load_program("a", LOOP)
        workspace.pour(5)
        workspace.undo()
        workspace.run_program("a", (), 1, 1)
        self.assertEqual([workspace.redo(), workspace.gauge()], [False, 0])

    def test_what_tells_and_what_fails_are_no_operations(self):
        self.workspace.undo()
        self.workspace.undo()
        tell_workspace(self.workspace)
        for error, operation in (
            (InvalidName, ("load", "A", RIGHT)), (UnknownName, ("unload", "b")), (InvalidFuel, ("pour", 10000)),
            (InvalidArguments, ("run", "a", (1,), 1, 1)), (InvalidShare, ("run", "a", (), 2, 1)),
        ):
            with self.assertRaises(error):
                call_operation(self.workspace, operation)
            self.expect(5)
        self.workspace.save("a")
        self.assertEqual([self.workspace.redo(), self.workspace.redo(), self.workspace.redo()], [True, True, False])
        self.expect(7)

    def test_undo_and_redo_are_no_operations(self):
        self.assertEqual(self.workspace.operations(), ["load", "pour", "run", "load", "run", "unload", "pour"])
        self.workspace.undo()
        self.assertEqual(self.workspace.operations(), ["load", "pour", "run", "load", "run", "unload"])
        self.workspace.redo()
        self.assertEqual(self.workspace.operations(), ["load", "pour", "run", "load", "run", "unload", "pour"])

    def test_failing_undo_and_redo_change_nothing(self):
        workspace = Workspace(5)
        workspace.pour(1)
        self.assertIs(workspace.redo(), False)
        self.assertIs(workspace.undo(), True)
        self.assertIs(workspace.undo(), False)
        self.assertIs(workspace.redo(), True)
        self.assertEqual(tell_workspace(workspace), ([], 6, NO_CELLS, [], ["pour"]))


class WorkspaceFaults(Faults):
    def setUp(self):
        self.workspace = Workspace(100)
        self.workspace.load_program("a", RIGHT)
        self.workspace.load_program("b", COUNTS)
        self.workspace.run_program("b", (3,), 1, 2)
        self.workspace.pour(7)
        self.workspace.undo()
        self.before = tell_workspace(self.workspace)

    def tearDown(self):
        self.assertEqual(tell_workspace(self.workspace), self.before)
        self.assertEqual([self.workspace.redo(), self.workspace.redo()], [True, False])

    def refuse(self, error, method, *arguments):
        """A call must raise this error and change nothing."""
        self.check(error, method, *arguments)
        self.assertEqual(tell_workspace(self.workspace), self.before)

    def test_fuel_at_creation(self):
        for fuel in WRONG_FUEL:
            self.check(InvalidFuel, Workspace, fuel)

    def test_load_program(self):
        for name in WRONG_NAMES:
            self.refuse(InvalidName, self.workspace.load_program, name, RIGHT)
            self.refuse(InvalidName, self.workspace.load_program, name, "def f(")
        for name in ("a", "c"):
            for source, (error, attributes) in FAULTS:
                self.assertEqual(self.check(error, self.workspace.load_program, name, source), attributes)

    def test_unload(self):
        for name in WRONG_NAMES + ["c", "aa"]:
            self.refuse(UnknownName, self.workspace.unload, name)

    def test_pour(self):
        level = self.workspace.gauge()
        for amount in WRONG_FUEL + [10001 - level, 10000]:
            self.refuse(InvalidFuel, self.workspace.pour, amount)
        self.workspace.save("before")
        self.assertEqual(self.workspace.pour(10000 - level), 10000)
        self.check(InvalidFuel, self.workspace.pour, 1)
        self.workspace.restore("before")

    def test_run_program(self):
        for name in WRONG_NAMES + ["c", "aa"]:
            self.refuse(UnknownName, self.workspace.run_program, name, None, 0, 0)
            self.refuse(UnknownName, self.workspace.run_program, name, (5,), 1, 2)
        for arguments in WRONG_ARGUMENTS:
            self.refuse(InvalidArguments, self.workspace.run_program, "b", arguments, 0, None)
            self.refuse(InvalidArguments, self.workspace.run_program, "b", arguments, 1, 2)
        for part, whole in WRONG_SHARES:
            self.refuse(InvalidShare, self.workspace.run_program, "b", (5,), part, whole)

    def test_save_and_restore(self):
        self.workspace.save("a")
        for name in WRONG_NAMES:
            self.refuse(InvalidName, self.workspace.save, name)
            self.refuse(UnknownName, self.workspace.restore, name)
        for name in ("b", "aa"):
            self.refuse(UnknownName, self.workspace.restore, name)


class MadeUp(unittest.TestCase):
    def test_operations_that_are_made_up(self):
        errors = []
        for seed in range(150):
            chance = random.Random(seed)
            fuel = chance.choice([0, 10, 100, 900])
            workspace, model = Workspace(fuel), WorkspaceModel(fuel)
            for _ in range(25):
                operation = make_operation(chance)
                results = []
                error = error_of(lambda: results.append(call_operation(workspace, operation)))
                expected = error_of(lambda: results.append(model.execute(operation)))
                self.assertEqual(error, expected, operation)
                self.assertEqual(results[:1], results[1:], operation)
                self.assertEqual(tell_workspace(workspace), model.tell(), operation)
                errors.append(error and error[0])
        for error in (None, InvalidName, SyntaxFault, CheckFault, UnknownName, InvalidFuel, InvalidArguments,
                      InvalidShare):
            self.assertGreater(errors.count(error), 20, error)


if __name__ == "__main__":
    unittest.main()
