"""Point 8: runs that are executed step by step."""

import unittest

from fuelshare import machine
from fuelshare.machine import Stepper, run
from tests.helper import EXAMPLE, NO_CELLS, Reference, make_runs


def follow(source, arguments, fuel, cells=NO_CELLS):
    """Returns the fuel of all calls at creation and behind each step, up to the end of the run."""
    stepper = Stepper(source, arguments, fuel, cells=cells)
    found = [stepper.fuels()]
    while stepper.step():
        found.append(stepper.fuels())
    return found + [stepper.fuels()]


class Steps(unittest.TestCase):
    def test_the_examples_of_the_interface(self):
        stepper = Stepper(EXAMPLE, (5,), 1)
        self.assertEqual([stepper.step(), stepper.step(), stepper.step(), stepper.outcome()[0]],
                         [True, True, False, "dry"])
        stepper = Stepper(EXAMPLE, (5,), 5)
        self.assertEqual(stepper.outcome(), ("running", None, NO_CELLS, (), 0))
        stepper.step()
        self.assertEqual((stepper.depth(), stepper.fuels(), stepper.steps()), (2, [2, 2], 1))

    def test_all_steps_of_the_example(self):
        self.assertEqual(follow(EXAMPLE, (5,), 5), [[5], [2, 2], [2, 1], [2], [1], []])

    def test_all_outcomes_of_the_example(self):
        stepper = Stepper(EXAMPLE, (5,), 6)
        cells = (5,) + NO_CELLS[1:]
        expected = [
            ("running", None, NO_CELLS, (), 0),
            ("running", None, cells, (), 0),
            ("running", None, cells, (), 0),
            ("running", None, cells, (5,), 0),
            ("done", 6, cells, (5,), 1),
        ]
        for outcome in expected:
            stepper.step()
            self.assertEqual(stepper.outcome(), outcome)

    def test_a_call_that_runs_dry_takes_a_step(self):
        source = "def f() { call x = g() share 1/2 else 5; emit x; } def g() { put A = 1; emit 2; emit 3; }"
        stepper = Stepper(source, (), 6)
        found = []
        while stepper.step():
            found.append((stepper.fuels(), stepper.outcome()[2][0], stepper.outcome()[3], stepper.steps()))
        expected = [([3, 2], 0, (), 1), ([3, 1], 1, (), 2), ([3, 0], 1, (2,), 3), ([3], 0, (), 4)]
        self.assertEqual(found, expected)
        self.assertEqual((stepper.outcome(), stepper.steps()), (("done", 0, NO_CELLS, (5,), 2), 5))

    def test_the_first_call_runs_dry(self):
        stepper = Stepper("def f() { put A = 3; emit 4; emit 5; }", (), 2)
        self.assertEqual([stepper.step(), stepper.step()], [True, True])
        self.assertEqual(stepper.outcome(), ("running", None, (3,) + NO_CELLS[1:], (4,), 0))
        self.assertEqual((stepper.fuels(), stepper.depth()), ([0], 1))
        self.assertIs(stepper.step(), False)
        self.assertEqual(stepper.outcome(), ("dry", None, NO_CELLS, (), 0))
        self.assertEqual((stepper.fuels(), stepper.depth(), stepper.steps()), ([], 0, 3))

    def test_several_calls_run_dry_in_as_many_steps(self):
        source = "def f() { call x = f() share 1/1 else 0; emit x; }"
        self.assertEqual(follow(source, (), 2), [[2], [0, 1], [0, 0, 0], [0, 0], [0], []])

    def test_steps_of_a_loop(self):
        source = "def f() { loop 2 { emit 1; } emit 2; }"
        stepper = Stepper(source, (), 9)
        found = []
        while stepper.step():
            found.append((stepper.fuels(), stepper.outcome()[3]))
        expected = [([8], ()), ([7], ()), ([6], (1,)), ([5], (1,)), ([4], (1, 1))]
        self.assertEqual(found, expected)
        self.assertEqual(stepper.steps(), 6)

    def test_a_loop_runs_dry_at_an_iteration(self):
        self.assertEqual(follow("def f() { loop 5 {} }", (), 3), [[3], [2], [1], [0], []])


class Free(unittest.TestCase):
    """What costs nothing happens together with the step before it, or at creation."""

    def check_steps(self, source, many, arguments=()):
        """A run with enough fuel must take so many steps."""
        stepper = Stepper(source, arguments, 100)
        self.assertEqual([stepper.step() for _ in range(many)], [True] * (many - 1) + [False] * (many > 0))
        self.assertEqual((stepper.depth(), stepper.steps(), stepper.outcome()[0]), (0, many, "done"))
        self.assertEqual(stepper.outcome(), run(source, arguments, 100))

    def test_at_creation(self):
        for fuel in (0, 7):
            stepper = Stepper("def f() {}", (), fuel)
            self.assertEqual((stepper.depth(), stepper.fuels(), stepper.steps()), (0, [], 0))
            self.assertEqual(stepper.outcome(), ("done", 0, NO_CELLS, (), fuel))
            self.assertIs(stepper.step(), False)
            self.assertEqual(stepper.steps(), 0)

    def test_without_fuel_at_creation(self):
        stepper = Stepper("def f() { emit 1; }", (), 0)
        self.assertEqual((stepper.depth(), stepper.fuels(), stepper.outcome()[0]), (1, [0], "running"))
        self.assertEqual((stepper.step(), stepper.outcome()[0], stepper.steps()), (False, "dry", 1))

    def test_the_end_of_a_block(self):
        self.check_steps("def f() { emit 1; }", 1)
        self.check_steps("def f() { if 1 < 2 { if 1 < 2 { emit 1; } } }", 3)
        self.check_steps("def f() { if 1 < 2 {} }", 1)
        self.check_steps("def f() { if 2 < 1 { emit 1; } }", 1)
        self.check_steps("def f() { emit 1; return 2; }", 2)

    def test_the_end_of_a_loop(self):
        self.check_steps("def f() { loop 0 { emit 1; } }", 1)
        self.check_steps("def f() { loop 2 {} }", 3)
        self.check_steps("def f() { loop 2 { emit 1; } }", 5)
        self.check_steps("def f() { loop 2 { loop 0 {} if 1 = 2 { emit 1; } } }", 7)

    def test_the_end_of_calls(self):
        self.check_steps("def f() { call x = g() share 1/2 else 0; } def g() {}", 1)
        self.check_steps("def f() { call x = g() share 1/2 else 0; } def g() { emit 1; }", 2)
        source = """
            def f() { loop 1 { call x = g() share 1/2 else 0; } }
            def g() { if 1 < 2 { call x = h() share 1/2 else 0; } }
            def h() { loop 1 { return 5; } }
        """
        self.check_steps(source, 8)

    def test_a_call_that_ends_at_its_begin(self):
        stepper = Stepper("def f() { call x = g() share 1/2 else 5; emit x; } def g() {}", (), 9)
        self.assertIs(stepper.step(), True)
        self.assertEqual((stepper.depth(), stepper.fuels()), (1, [8]))

    def test_the_caller_ends_together_with_a_call_that_runs_dry(self):
        stepper = Stepper("def f() { call x = g() share 1/2 else 5; } def g() { emit 1; }", (), 2)
        self.assertEqual([stepper.step(), stepper.step(), stepper.steps()], [True, False, 2])
        self.assertEqual(stepper.outcome(), ("done", 0, NO_CELLS, (), 1))


class Ends(unittest.TestCase):
    def test_steps_behind_the_end_do_nothing(self):
        for fuel, steps in ((5, 5), (4, 5), (1, 3)):
            stepper = Stepper(EXAMPLE, (5,), fuel)
            while stepper.step():
                pass
            for _ in range(3):
                self.assertEqual(stepper.outcome(), run(EXAMPLE, (5,), fuel))
                self.assertEqual((stepper.depth(), stepper.fuels(), stepper.steps()), (0, [], steps))
                self.assertIs(stepper.step(), False)

    def test_asking_changes_nothing(self):
        stepper = Stepper(EXAMPLE, (5,), 5)
        for _ in range(6):
            for method in (stepper.depth, stepper.fuels, stepper.steps, stepper.outcome):
                self.assertEqual(method(), method())
            stepper.step()
        self.assertEqual(stepper.outcome(), run(EXAMPLE, (5,), 5))

    def test_returned_lists_may_be_modified(self):
        stepper = Stepper(EXAMPLE, (5,), 5)
        stepper.step()
        fuels = stepper.fuels()
        fuels.append(7)
        fuels[0] = None
        self.assertEqual(stepper.fuels(), [2, 2])
        self.assertEqual(stepper.depth(), 2)

    def test_steppers_are_independent(self):
        steppers = [Stepper(EXAMPLE, (5,), fuel) for fuel in (3, 4, 5, 5)]
        for _ in range(9):
            for stepper in steppers[:3]:
                stepper.step()
        self.assertEqual([stepper.outcome()[:2] for stepper in steppers],
                         [("dry", None), ("done", 10), ("done", 6), ("running", None)])

    def test_the_kinds_of_the_values(self):
        stepper = Stepper(EXAMPLE, (5,), 5)
        self.assertIs(type(stepper.step()), bool)
        self.assertIs(type(stepper.depth()), int)
        self.assertIs(type(stepper.fuels()), list)
        self.assertIs(type(stepper.steps()), int)
        self.assertIs(type(stepper.outcome()), tuple)

    def test_given_cells(self):
        cells = (999999, 2, 3, 4, 5, 6, 7, 8)
        stepper = Stepper("def f(n) { put B = A + n; return B; }", (999999,), 2, cells=cells)
        self.assertEqual(stepper.outcome()[2], cells)
        stepper.step()
        self.assertEqual(stepper.outcome(), ("running", None, (999999, 999998) + cells[2:], (), 0))

    def test_the_methods_are_defined_in_the_class(self):
        for name in ("step", "depth", "fuels", "steps", "outcome"):
            self.assertIn(name, vars(Stepper))
        for name in ("run", "trace", "Stepper"):
            self.assertEqual(getattr(machine, name).__module__, "fuelshare.machine")

    def test_runs_that_are_made_up(self):
        depths = []
        for source, arguments, cells in make_runs(range(600, 750)):
            for fuel in (0, 3, 12, 50, 250):
                expected = Reference(source, arguments, fuel, cells)
                stepper = Stepper(source, arguments, fuel, cells=cells)
                for number, (fuels, now, output) in enumerate(expected.states):
                    self.assertEqual((stepper.fuels(), stepper.depth(), stepper.steps()), (fuels, len(fuels), number))
                    self.assertEqual(stepper.outcome(), ("running", None, now, output, 0))
                    self.assertIs(stepper.step(), number + 1 < len(expected.states))
                    depths.append(len(fuels))
                self.assertEqual(stepper.outcome(), expected.outcome(), (source, arguments, fuel))
                self.assertEqual((stepper.depth(), stepper.steps()), (0, len(expected.states)))
        self.assertGreater(depths.count(3), 500)


if __name__ == "__main__":
    unittest.main()
