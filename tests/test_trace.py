"""Point 7: the events of runs."""

import unittest

from fuelshare.machine import trace
from tests.helper import EXAMPLE, Reference, make_runs


class Trace(unittest.TestCase):
    def test_the_example_of_the_interface(self):
        events = [("call", "main", 4), ("call", "half", 1), ("dry", "half"), ("return", "main", 10, 0)]
        self.assertEqual(trace(EXAMPLE, (5,), 4), events)

    def test_calls_that_are_done(self):
        events = [("call", "main", 9), ("call", "half", 4), ("return", "half", 5, 2), ("return", "main", 6, 4)]
        self.assertEqual(trace(EXAMPLE, (5,), 9), events)

    def test_a_function_without_statements(self):
        self.assertEqual(trace("def f() {}", (), 0), [("call", "f", 0), ("return", "f", 0, 0)])
        self.assertEqual(trace("def f() {}", (), 10000), [("call", "f", 10000), ("return", "f", 0, 10000)])

    def test_the_first_call_runs_dry(self):
        self.assertEqual(trace("def f() { emit 1; }", (), 0), [("call", "f", 0), ("dry", "f")])
        self.assertEqual(trace(EXAMPLE, (5,), 1), [("call", "main", 1), ("call", "half", 0), ("dry", "half"),
                                                   ("dry", "main")])

    def test_events_within_a_call_that_runs_dry(self):
        source = """
            def f() { call x = g() share 1/2 else 5; }
            def g() { call y = h() share 2/3 else 6; loop 999999 {} }
            def h() { return 7; }
        """
        events = [("call", "f", 21), ("call", "g", 10), ("call", "h", 6), ("return", "h", 7, 5), ("dry", "g"),
                  ("return", "f", 0, 10)]
        self.assertEqual(trace(source, (), 21), events)

    def test_calls_that_run_dry_one_after_another(self):
        source = "def f() { call x = f() share 1/1 else 0; emit x; }"
        calls = [("call", "f", fuel) for fuel in (3, 2, 1, 0)]
        self.assertEqual(trace(source, (), 3), calls + [("dry", "f")] * 4)

    def test_statements_are_no_events(self):
        source = "def f() { loop 3 { emit 1; put A = 2; set x = 3; if x = 3 { emit 4; } } }"
        self.assertEqual(trace(source, (), 50), [("call", "f", 50), ("return", "f", 0, 31)])

    def test_given_cells(self):
        source = "def f() { if A = 5 { return B; } return 9; }"
        self.assertEqual(trace(source, (), 3, cells=(5, 6, 0, 0, 0, 0, 0, 0))[-1], ("return", "f", 6, 1))
        self.assertEqual(trace(source, (), 3)[-1], ("return", "f", 9, 1))

    def test_the_kinds_of_the_values(self):
        events = trace(EXAMPLE, (5,), 4)
        self.assertIs(type(events), list)
        self.assertEqual([type(event) for event in events], [tuple] * 4)

    def test_the_list_may_be_modified(self):
        events = trace(EXAMPLE, (5,), 4)
        expected = list(events)
        events.append("more")
        events[0] = None
        self.assertEqual(trace(EXAMPLE, (5,), 4), expected)

    def test_traces_that_are_made_up(self):
        kinds = []
        for source, arguments, cells in make_runs(range(300, 500)):
            for fuel in (0, 2, 6, 13, 40, 200):
                expected = Reference(source, arguments, fuel, cells).events
                self.assertEqual(trace(source, arguments, fuel, cells=cells), expected, (source, arguments, fuel))
                kinds.extend([event[0] for event in expected[1:-1]])
        for kind in ("call", "return", "dry"):
            self.assertGreater(kinds.count(kind), 200)


if __name__ == "__main__":
    unittest.main()
