"""Point 1: what holds for the whole package, whichever functions are called and in whichever order."""

import copy
import random
import unittest

from fuelshare import analysis, compiler, encoding, formatter, machine, optimizer, session
from fuelshare.errors import FuelError
from fuelshare.machine import Stepper
from fuelshare.tank import Tank
from fuelshare.workspace import Workspace, replay
from tests.helper import EXAMPLE, make_operation, make_runs, tell_workspace

LOOP = "def f() { put A = A + 1; emit A; loop 999999 {} }"
OPERATIONS = [("load", "a", EXAMPLE), ("run", "a", (5,), 1, 2), ("pour", 5), ("undo",)]


def result_of(call):
    """Returns what a call returns, copied, or the error that it raises."""
    function, arguments, keywords = call
    try:
        return copy.deepcopy(function(*arguments, **keywords))
    except FuelError as error:
        return type(error), vars(error)


def spoil(value):
    """Modifies a list that was returned."""
    if isinstance(value, list):
        value.reverse()
        value.append("spoiled")


def calls_for(source, arguments, cells):
    """Returns calls of all functions for a source."""
    calls = [(formatter.format_source, (source,)), (compiler.count_statements, (source,)), (encoding.encode, (source,)),
             (optimizer.optimize, (source,))]
    calls = [call + ({},) for call in calls]
    for function in (machine.run, machine.trace, analysis.first_dry):
        calls += [(function, (source, arguments, fuel), {"cells": cells}) for fuel in (0, 6, 90)]
    for function in (analysis.full_run, analysis.least_fuel, analysis.call_needs, analysis.share_effects,
                     optimizer.savings):
        calls.append((function, (source, arguments), {"cells": cells}))
    calls.append((analysis.fuel_ranges, (source, arguments, 30), {"cells": cells}))
    calls.append((analysis.compare, (source, LOOP, (), 9), {}))
    operations = [("load", "a", source), ("run", "a", arguments, 1, 2), ("undo",)]
    calls.append((session.format_session, (100, operations), {}))
    calls.append((session.parse_session, (session.format_session(100, operations),), {}))
    calls.append((encoding.decode, (encoding.encode(source),), {}))
    calls.append((encoding.decode, (encoding.encode(source)[:-2],), {}))
    calls.append((session.parse_session, ("fuel 20\nundo\nundo 1",), {}))
    return calls


class Repeated(unittest.TestCase):
    def setUp(self):
        self.calls = [call for run in make_runs(range(12)) for call in calls_for(*run)]
        self.calls += calls_for(EXAMPLE, (5,), (0,) * 8)

    def test_calls_in_any_order(self):
        expected = [result_of(call) for call in self.calls]
        for seed in range(3):
            order = list(range(len(self.calls)))
            random.Random(seed).shuffle(order)
            for at in order:
                self.assertEqual(result_of(self.calls[at]), expected[at], self.calls[at])

    def test_returned_lists_may_be_modified(self):
        for call in self.calls:
            function, arguments, keywords = call
            expected = result_of(call)
            if isinstance(expected, list):
                spoil(function(*arguments, **keywords))
                self.assertEqual(result_of(call), expected)

    def test_arguments_are_not_modified(self):
        for call in self.calls:
            before = copy.deepcopy(call[1:])
            result_of(call)
            self.assertEqual(call[1:], before)

    def test_the_operations_of_a_parsed_session_may_be_modified(self):
        text = session.format_session(100, OPERATIONS)
        spoil(session.parse_session(text)[1])
        self.assertEqual(session.parse_session(text), (100, OPERATIONS))


class Objects(unittest.TestCase):
    def test_lists_of_a_stepper_may_be_modified(self):
        stepper = Stepper(EXAMPLE, (5,), 5)
        stepper.step()
        spoil(stepper.fuels())
        self.assertEqual((stepper.fuels(), stepper.depth()), ([2, 2], 2))

    def test_lists_of_a_tank_may_be_modified(self):
        tank = Tank(100)
        for _ in range(3):
            tank.start_process(EXAMPLE, (5,), 1, 2)
        for tell in (tank.held, tank.running, tank.statuses):
            before = tell()
            spoil(tell())
            self.assertEqual(tell(), before)
        spoil(tank.turn(1000))
        self.assertEqual((tank.running(), tank.statuses(), tank.gauge()), ([], ["done"] * 3, 85))

    def test_lists_of_a_workspace_may_be_modified(self):
        workspace = replay(100, OPERATIONS)
        workspace.save("a")
        before = tell_workspace(workspace)
        for tell in (workspace.programs, workspace.log, workspace.operations):
            spoil(tell())
            self.assertEqual(tell_workspace(workspace), before)
        spoil(workspace.batch([("undo",), ("redo",)]))
        workspace.restore("a")
        self.assertEqual(tell_workspace(workspace), before)

    def test_lists_that_were_passed_may_be_modified(self):
        operations = list(OPERATIONS)
        workspace = replay(100, operations)
        workspace.batch(operations)
        before = tell_workspace(workspace)
        spoil(operations)
        self.assertEqual(tell_workspace(workspace), before)
        self.assertEqual([workspace.redo(), workspace.gauge()], [True, 95])

    def test_what_tells_changes_nothing(self):
        tank = Tank(100)
        tank.start_process(LOOP, (), 1, 2)
        workspace = replay(100, OPERATIONS)
        for _ in range(3):
            told = (tank.gauge(), tank.held(), tank.running(), tank.burned(), tank.statuses(), tank.outcome(0))
            self.assertEqual(told, (50, [(0, 50)], [0], 0, ["running"], ("running", None, (0,) * 8, ())))
            self.assertEqual(tell_workspace(workspace)[1:], (95, (5,) + (0,) * 7, [5], ["load", "run"]))
        self.assertEqual([workspace.redo(), tank.turn(1), tank.gauge()], [True, [], 50])

    def test_steppers_do_not_influence_each_other(self):
        alone = Stepper(EXAMPLE, (5,), 5)
        expected = []
        while alone.step():
            expected.append((alone.outcome(), alone.fuels()))
        former, latter = Stepper(EXAMPLE, (5,), 5), Stepper(EXAMPLE, (5,), 5)
        found = []
        while former.step():
            latter_before = (latter.outcome(), latter.fuels())
            found.append((former.outcome(), former.fuels()))
            self.assertEqual((latter.outcome(), latter.fuels()), latter_before)
            if len(found) % 2:
                latter.step()
        self.assertEqual(found, expected)

    def test_tanks_do_not_influence_each_other(self):
        former, latter = Tank(100), Tank(100)
        former.start_process(LOOP, (), 1, 2)
        former.turn(5)
        self.assertEqual((latter.gauge(), latter.statuses(), latter.burned()), (100, [], 0))
        latter.start_process(LOOP, (), 1, 1)
        latter.turn(1)
        former.cancel(0)
        self.assertEqual((former.gauge(), former.burned(), latter.held()), (95, 5, [(0, 99)]))
        self.assertEqual(latter.outcome(0), ("running", None, (1,) + (0,) * 7, ()))

    def test_processes_do_not_influence_each_other(self):
        tank = Tank(100)
        for share in ((1, 2), (1, 1)):
            tank.start_process("def f() { put A = A + 1; emit A; put A = A + 1; emit A; }", (), *share)
        tank.turn(3)
        self.assertEqual(tank.outcome(0), tank.outcome(1))
        self.assertEqual(tank.outcome(0), ("running", None, (2,) + (0,) * 7, (1,)))

    def test_workspaces_do_not_influence_each_other(self):
        for seed in range(20):
            chance = random.Random(seed)
            operations = [make_operation(chance) for _ in range(12)]
            alone, former, latter = Workspace(200), Workspace(200), Workspace(200)
            for operation in operations:
                expected = result_of((alone.batch, ([operation],), {}))
                told = tell_workspace(latter)
                self.assertEqual(result_of((former.batch, ([operation],), {})), expected)
                self.assertEqual(tell_workspace(latter), told)
                self.assertEqual(tell_workspace(former), tell_workspace(alone))
                result_of((latter.batch, ([make_operation(chance)],), {}))


if __name__ == "__main__":
    unittest.main()
