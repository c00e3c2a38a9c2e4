"""Points 1, 2, 3, 7, 9, 10, 11: the errors of the functions that run, analyse and optimize sources, in their order."""

import unittest

from fuelshare import analysis, machine, optimizer
from fuelshare.errors import (
    CheckFault, Endless, InvalidArguments, InvalidCells, InvalidFuel, InvalidLimit, SyntaxFault,
)
from tests.helper import NO_CELLS, RIGHT, WRONG_ARGUMENTS, WRONG_CELLS, WRONG_FUEL, Faults

ENDLESS = "def f(n) { call x = f(n) share 1/1 else 0; }"

FUELED = {"run": machine.run, "trace": machine.trace, "Stepper": machine.Stepper, "first_dry": analysis.first_dry}
FULL = {
    "full_run": analysis.full_run, "least_fuel": analysis.least_fuel, "call_needs": analysis.call_needs,
    "share_effects": analysis.share_effects, "savings": optimizer.savings,
}
LIMITED = {
    "fuel_ranges": analysis.fuel_ranges,
    "compare, first": lambda source, arguments, limit, cells=NO_CELLS:
        analysis.compare(source, RIGHT, arguments, limit, cells=cells),
    "compare, second": lambda source, arguments, limit, cells=NO_CELLS:
        analysis.compare(RIGHT, source, arguments, limit, cells=cells),
    "compare, both": lambda source, arguments, limit, cells=NO_CELLS:
        analysis.compare(source, source, arguments, limit, cells=cells),
}

WRONG_LIMITS = [-1, 301, 10 ** 30, True, False, None, "5", "", (), (5,), [5], []]


class FueledFaults(Faults):
    def test_faults_of_sources_come_first(self):
        for function in FUELED.values():
            self.check_source(function, (7,), 5)
            self.check_source(function, None, -1, cells=None)

    def test_arguments(self):
        for function in FUELED.values():
            for arguments in WRONG_ARGUMENTS:
                self.check(InvalidArguments, function, RIGHT, arguments, 5)
                self.check(InvalidArguments, function, RIGHT, arguments, -1, cells=None)

    def test_arguments_for_other_numbers_of_parameters(self):
        for function in FUELED.values():
            self.check(InvalidArguments, function, "def f() {} def g(n) {}", (1,), 5)
            self.check(InvalidArguments, function, "def f(a, b, c, d) {}", (1, 2, 3), 5)
            self.check(InvalidArguments, function, "def f(a, b, c, d) {}", (1, 2, 3, 4, 5), 5)
            self.check(InvalidArguments, function, "def f(a, b, c, d) {}", (1, 2, 3, True), 5)
            function("def f(a, b, c, d) {}", (1, 2, 3, 4), 5)
            function("def f() {} def g(n) {}", (), 5)

    def test_fuel(self):
        for function in FUELED.values():
            for fuel in WRONG_FUEL:
                self.check(InvalidFuel, function, RIGHT, (7,), fuel)
                self.check(InvalidFuel, function, RIGHT, (7,), fuel, cells=None)

    def test_cells(self):
        for function in FUELED.values():
            for cells in WRONG_CELLS:
                self.check(InvalidCells, function, RIGHT, (7,), 5, cells=cells)

    def test_what_is_accepted(self):
        for function in FUELED.values():
            for value in (0, 999999):
                for fuel in (0, 10000):
                    function(RIGHT, (value,), fuel, cells=(value,) * 8)

    def test_endless_runs_are_none(self):
        for function in FUELED.values():
            function(ENDLESS, (7,), 10000)


class FullFaults(Faults):
    def test_faults_of_sources_come_first(self):
        for function in FULL.values():
            self.check_source(function, (7,))
            self.check_source(function, None, cells=None)

    def test_arguments(self):
        for function in FULL.values():
            for arguments in WRONG_ARGUMENTS:
                self.check(InvalidArguments, function, RIGHT, arguments)
                self.check(InvalidArguments, function, ENDLESS, arguments, cells=None)

    def test_cells(self):
        for function in FULL.values():
            for cells in WRONG_CELLS:
                self.check(InvalidCells, function, RIGHT, (7,), cells=cells)
                self.check(InvalidCells, function, ENDLESS, (7,), cells=cells)

    def test_endless(self):
        for function in FULL.values():
            self.check(Endless, function, ENDLESS, (7,))
            self.check(Endless, function, "def f(n) { loop n {} }", (5000,))
            function("def f(n) { loop n {} }", (4999,))

    def test_what_is_accepted(self):
        for function in FULL.values():
            for value in (0, 999999):
                function(RIGHT, (value,), cells=(value,) * 8)


class LimitedFaults(Faults):
    def test_faults_of_sources_come_first(self):
        for name, function in LIMITED.items():
            self.check_source(function, (7,), 5)
            # The arguments and the cells are wrong for the first source, which is right.
            if name != "compare, second":
                self.check_source(function, None, -1, cells=None)

    def test_arguments(self):
        for function in LIMITED.values():
            for arguments in WRONG_ARGUMENTS:
                self.check(InvalidArguments, function, RIGHT, arguments, 5)
                self.check(InvalidArguments, function, RIGHT, arguments, -1, cells=None)

    def test_cells(self):
        for function in LIMITED.values():
            for cells in WRONG_CELLS:
                self.check(InvalidCells, function, RIGHT, (7,), 5, cells=cells)
                self.check(InvalidCells, function, RIGHT, (7,), -1, cells=cells)

    def test_limits(self):
        for function in LIMITED.values():
            for limit in WRONG_LIMITS:
                self.check(InvalidLimit, function, RIGHT, (7,), limit)
                self.check(InvalidLimit, function, ENDLESS, (7,), limit)

    def test_what_is_accepted(self):
        for function in LIMITED.values():
            for value in (0, 999999):
                for limit in (0, 300):
                    function(RIGHT, (value,), limit, cells=(value,) * 8)
            function(ENDLESS, (7,), 300)

    def test_compare_checks_the_first_source_before_the_second_one(self):
        compare = analysis.compare
        syntax, check = "def f(n) {", "def f(n) { emit x; }"
        self.assertEqual(self.check(SyntaxFault, compare, syntax, "", (7,), 5), {"line": 1, "column": 0})
        self.check(SyntaxFault, compare, syntax, check, (7,), 5)
        self.check(CheckFault, compare, check, syntax, (7,), 5)
        self.check(InvalidArguments, compare, RIGHT, syntax, (), 5)
        self.check(InvalidArguments, compare, "def f() {}", check, (7,), -1)
        self.check(InvalidCells, compare, RIGHT, syntax, (7,), -1, cells=())
        self.check(InvalidCells, compare, RIGHT, "def f() {}", (7,), -1, cells=())
        self.check(SyntaxFault, compare, RIGHT, syntax, (7,), -1)
        self.check(CheckFault, compare, RIGHT, check, (7,), -1)
        self.check(InvalidArguments, compare, RIGHT, "def f() {}", (7,), -1)
        self.check(InvalidArguments, compare, RIGHT, "def f(a, b) {}", (7,), 5)


class OptimizerFaults(Faults):
    def test_faults_of_sources(self):
        self.check_source(optimizer.optimize)

    def test_faults_in_what_would_be_taken_away(self):
        faults = [
            ("def f() { return 1; emit x; }", "undefined", 25),
            ("def f() { if 1 = 2 { call x = g() share 1/1 else 0; } }", "undefined", 30),
            ("def f() {} def g(a, a) {}", "duplicate", 20),
            ("def f() { loop 0 { call x = f() share 0/1 else 0; } }", "share", 38),
        ]
        for source, reason, column in faults:
            expected = {"reason": reason, "line": 0, "column": column}
            self.assertEqual(self.check(CheckFault, optimizer.optimize, source), expected)
            self.assertEqual(self.check(CheckFault, optimizer.savings, source, ()), expected)


class Unchanged(Faults):
    def test_errors_change_nothing(self):
        stepper = machine.Stepper(RIGHT, (7,), 5)
        for functions in (FUELED, FULL, LIMITED):
            for function in functions.values():
                extra = () if functions is FULL else (5,)
                before = None if function is machine.Stepper else function(RIGHT, (7,), *extra)
                self.check(InvalidArguments, function, RIGHT, [7], *extra)
                self.check(InvalidCells, function, RIGHT, (7,), *extra, cells=[0] * 8)
                if function is not machine.Stepper:
                    self.assertEqual(function(RIGHT, (7,), *extra), before)
        self.assertEqual((stepper.step(), stepper.outcome()), (False, ("done", 7, NO_CELLS, (), 4)))

    def test_wrong_lists_are_not_modified(self):
        arguments, cells = [7], [0] * 8
        for function in FUELED.values():
            self.check(InvalidArguments, function, RIGHT, arguments, 5, cells=cells)
            self.check(InvalidCells, function, RIGHT, (7,), 5, cells=cells)
        self.assertEqual((arguments, cells), ([7], [0] * 8))

    def test_cells_are_passed_by_keyword(self):
        for functions in (FUELED, FULL):
            for function in functions.values():
                extra = () if functions is FULL else (5,)
                with self.assertRaises(TypeError):
                    function(RIGHT, (7,), *extra, NO_CELLS)
        with self.assertRaises(TypeError):
            analysis.fuel_ranges(RIGHT, (7,), 5, NO_CELLS)
        with self.assertRaises(TypeError):
            analysis.compare(RIGHT, RIGHT, (7,), 5, NO_CELLS)


if __name__ == "__main__":
    unittest.main()
