"""Points 5, 6 and 7: values, cells, statements, the fuel of calls, and the outcomes of runs."""

import unittest

from fuelshare.machine import run
from tests.helper import EXAMPLE, NO_CELLS, Reference, make_runs


def first_cells(*values):
    """Returns eight cells that begin with these values."""
    return values + NO_CELLS[len(values):]


class Runs(unittest.TestCase):
    def check_output(self, body, output, cells=NO_CELLS):
        """A function with this body must be done and emit these values."""
        outcome = run(f"def f(a, b) {{ {body} }}", (3, 4), 1000, cells=cells)
        self.assertEqual(outcome[0], "done")
        self.assertEqual(outcome[3], output, body)

    def check_value(self, expression, value):
        """An expression must have this value; a is 3, b is 4, and A is 8."""
        self.check_output(f"emit {expression};", (value,), first_cells(8))

    def check_cost(self, source, fuel, arguments=()):
        """A run must be done with exactly so much fuel, and run dry with less."""
        self.assertEqual(run(source, arguments, fuel)[::4], ("done", 0))
        self.assertEqual(run(source, arguments, fuel + 5)[::4], ("done", 5))
        for less in range(fuel):
            self.assertEqual(run(source, arguments, less), ("dry", None, NO_CELLS, (), 0))


class Values(Runs):
    def test_terms(self):
        for expression, value in (("0", 0), ("7", 7), ("999999", 999999), ("a", 3), ("b", 4), ("A", 8), ("B", 0)):
            self.check_value(expression, value)

    def test_operators(self):
        for expression, value in (("a + b", 7), ("b - a", 1), ("a * b", 12), ("A - a - b", 1), ("A + A + A", 24)):
            self.check_value(expression, value)

    def test_no_precedence(self):
        self.check_value("2 + 3 * 4", 20)
        self.check_value("2 * 3 + 4 * 5", 50)
        self.check_value("10 - 2 - 3", 5)
        self.check_value("10 - 2 * 3", 24)
        self.check_value("a + b * A - 1 * 2", 110)

    def test_modulo(self):
        self.check_value("999999 + 1", 0)
        self.check_value("999999 + 999999", 999998)
        self.check_value("0 - 1", 999999)
        self.check_value("a - b", 999999)
        self.check_value("0 - 999999", 1)
        self.check_value("999999 * 999999", 1)
        self.check_value("1000 * 1000", 0)
        self.check_value("1000 * 1000 - 1 * 2", 999998)

    def test_comparisons_see_the_values(self):
        for expression, comparison, other in (
            ("999999 + 1", "=", "0"), ("0 - 1", ">", "5"), ("0", "<", "0 - 1"), ("2 + 3 * 4", "=", "20"),
        ):
            self.check_output(f"if {expression} {comparison} {other} {{ emit 1; }} else {{ emit 2; }}", (1,))


class Cells(Runs):
    def test_default(self):
        self.assertEqual(run("def f() {}", (), 3), ("done", 0, NO_CELLS, (), 3))

    def test_given_cells(self):
        cells = (1, 2, 3, 4, 5, 6, 7, 999999)
        self.check_output("emit A; emit B; emit C; emit D; emit E; emit F; emit G; emit H;", cells, cells)
        self.assertEqual(run("def f() { put C = H + 3; }", (), 1, cells=cells)[2], (1, 2, 2, 4, 5, 6, 7, 999999))

    def test_each_cell(self):
        for place, cell in enumerate("ABCDEFGH"):
            outcome = run(f"def f() {{ put {cell} = 9; return {cell}; }}", (), 2)
            self.assertEqual(outcome, ("done", 9, (0,) * place + (9,) + (0,) * (7 - place), (), 0))

    def test_cells_are_shared_by_all_functions(self):
        source = """
            def f() { put A = 5; call x = g() share 1/1 else 0; emit x; emit A; }
            def g() { emit A; put A = A + 1; return A * 10; }
        """
        self.assertEqual(run(source, (), 100)[2:4], (first_cells(6), (5, 60, 6)))

    def test_runs_do_not_share_cells(self):
        cells = first_cells(7)
        for _ in range(2):
            self.assertEqual(run("def f() { put A = A + 1; }", (), 1, cells=cells)[2], first_cells(8))
        self.assertEqual(cells, first_cells(7))


class Statements(Runs):
    def test_locals_start_with_zero(self):
        self.check_output("emit x; emit y; set x = 1; set y = 2;", (0, 0))
        self.check_output("loop 2 { emit x; set x = 5; }", (0, 5))

    def test_locals_of_each_call(self):
        source = """
            def f(n) {
              emit x; set x = n;
              if n > 0 { call y = f(n - 1) share 1/1 else 0; }
              emit x; emit n; emit y;
              set n = 0;
              return n + x + 10;
            }
        """
        output = (0, 0, 0, 0, 0, 0, 1, 1, 10, 2, 2, 11)
        self.assertEqual(run(source, (2,), 100)[1::2], (12, output))

    def test_set_may_assign_a_parameter(self):
        self.check_output("set a = a + b; emit a; set a = a + b; emit a;", (7, 11))

    def test_arguments_in_order(self):
        source = "def f(a, b, c, d) { emit a; emit b; emit c; emit d; }"
        self.assertEqual(run(source, (1, 0, 999999, 4), 4)[3], (1, 0, 999999, 4))

    def test_arguments_of_calls(self):
        source = "def f(a) { call a = g(a, a + 1, 3) share 1/1 else 0; emit a; } def g(x, y, a) { return x * y - a; }"
        self.assertEqual(run(source, (5,), 9)[3], (27,))

    def test_the_local_of_a_call_gets_the_value(self):
        source = "def f() { set x = 5; call x = g() share 1/9 else 8; emit x; } def g() { loop 999999 {} }"
        self.assertEqual(run(source, (), 99)[3], (8,))
        source = "def f() { set x = 5; call x = g() share 1/1 else 8; emit x; } def g() {}"
        self.assertEqual(run(source, (), 9)[3], (0,))

    def test_if(self):
        for comparison, expected in (("<", (1, 2, 2)), ("=", (2, 1, 2)), (">", (2, 2, 1))):
            for other, value in zip(("4", "3", "2"), expected):
                self.check_output(f"if a {comparison} {other} {{ emit 1; }} else {{ emit 2; }}", (value,))

    def test_if_without_else(self):
        self.check_output("if a < 4 { emit 1; } emit 2;", (1, 2))
        self.check_output("if a > 4 { emit 1; } emit 2;", (2,))
        self.check_output("if a > 4 {} else { emit 1; } emit 2;", (1, 2))

    def test_loop(self):
        self.check_output("loop a { emit b; }", (4, 4, 4))
        self.check_output("loop 0 { emit 1; } loop B { emit 2; } emit 3;", (3,))
        self.check_output("loop a - 2 * 2 { emit 1; }", (1, 1))

    def test_loop_evaluates_its_expression_once(self):
        self.check_output("loop a { set a = a + 1; emit a; }", (4, 5, 6))
        self.check_output("loop a { set a = 0; emit a; }", (0, 0, 0))

    def test_nested_loops(self):
        self.check_output("loop 2 { loop a { emit a; } set a = 1; }", (3, 3, 3, 1))
        self.check_output("loop 2 { loop 2 { set x = x + 1; if x = 3 { loop 2 { emit x; } } } emit x; }", (2, 3, 3, 4))

    def test_return(self):
        self.assertEqual(run("def f() { emit 1; return 7; emit 2; }", (), 9), ("done", 7, NO_CELLS, (1,), 7))

    def test_return_out_of_nested_blocks(self):
        source = """
            def f(n) {
              loop 3 {
                loop 3 {
                  set x = x + 1; emit x;
                  if x = n { if x > 0 { return x * 10; } } else { set y = 1; }
                }
              }
              emit 99;
            }
        """
        self.assertEqual(run(source, (5,), 100)[:4], ("done", 50, NO_CELLS, (1, 2, 3, 4, 5)))
        self.assertEqual(run(source, (0,), 100)[:4], ("done", 0, NO_CELLS, (1, 2, 3, 4, 5, 6, 7, 8, 9, 99)))

    def test_the_caller_of_a_return_in_a_loop_goes_on(self):
        source = "def f() { loop 2 { call x = g() share 1/1 else 0; emit x; } } def g() { loop 5 { return 4; } }"
        self.assertEqual(run(source, (), 100)[3], (4, 4))

    def test_a_block_without_return(self):
        self.assertEqual(run("def f() { set x = 5; }", (), 1)[1], 0)
        source = "def f() { call x = g() share 1/1 else 7; return x + 1; } def g() { emit 3; }"
        self.assertEqual(run(source, (), 9)[1], 1)

    def test_functions_may_be_called_before_and_behind_their_place(self):
        source = """
            def f() { call x = h(1) share 1/1 else 0; return x; }
            def g(n) { emit n; return n + 1; }
            def h(n) { call x = g(n + 1) share 1/1 else 0; return x * 2; }
        """
        self.assertEqual(run(source, (), 9), ("done", 6, NO_CELLS, (2,), 3))


class Costs(Runs):
    def test_an_empty_function_costs_nothing(self):
        self.check_cost("def f() {}", 0)

    def test_each_statement_costs_one(self):
        for statement in ("set x = 1;", "put A = 1;", "emit 1;", "return 1;", "if 1 < 2 {}", "if 2 < 1 {} else {}",
                          "loop 0 {}", "loop 0 { emit 1; }", "call x = g() share 1/9 else 0;"):
            self.check_cost(f"def f() {{ {statement} }} def g() {{}}", 1)

    def test_expressions_cost_nothing(self):
        self.check_cost("def f(a) { set x = a + 1 * 2 - 3 + A * A; }", 1, (4,))

    def test_iterations(self):
        self.check_cost("def f() { loop 1 {} }", 2)
        self.check_cost("def f() { loop 3 {} }", 4)
        self.check_cost("def f() { loop 3 { emit 1; } }", 7)
        self.check_cost("def f() { loop 2 { emit 1; loop 2 { emit 2; emit 3; } } }", 19)

    def test_only_one_block_of_an_if_costs(self):
        source = "def f(n) { if n = 1 { emit 1; emit 2; emit 3; } else { emit 4; } emit 5; }"
        self.check_cost(source, 5, (1,))
        self.check_cost(source, 3, (2,))

    def test_what_comes_behind_a_return_costs_nothing(self):
        self.check_cost("def f() { loop 9 { return 1; } emit 2; }", 3)

    def test_a_call_with_all_fuel(self):
        source = "def f() { call x = g() share 1/1 else 0; emit x; } def g() { emit 1; emit 2; return 3; }"
        self.assertEqual(run(source, (), 5), ("done", 0, NO_CELLS, (1, 2, 3), 0))
        self.assertEqual(run(source, (), 4), ("dry", None, NO_CELLS, (), 0))


class Shares(Runs):
    def received(self, share, fuel):
        """Returns how much fuel a call with this share receives from a caller with so much, by what is left of it."""
        source = f"def f() {{ call x = g() share {share} else 5; return x; }} def g() {{ loop 999999 {{}} }}"
        status, result, _, _, rest = run(source, (), fuel + 1)
        self.assertEqual((status, result), ("done", 5))
        return fuel - rest - 1

    def test_rounding(self):
        for share, fuel, received in (("1/2", 9, 4), ("1/2", 8, 4), ("2/3", 7, 4), ("1/9", 8, 0), ("1/9", 9, 1),
                                      ("8/9", 17, 15), ("4/9", 100, 44), ("3/7", 9999, 4285), ("5/6", 1, 0)):
            self.assertEqual(self.received(share, fuel), received, share)

    def test_the_rest_goes_back(self):
        source = "def f() { call x = g() share 1/2 else 9; loop x {} } def g() { return 3; }"
        self.check_cost(source, 6)
        self.assertEqual(run(source, (), 20), ("done", 0, NO_CELLS, (), 14))

    def test_the_call_pays_before_it_shares(self):
        source = "def f() { call x = g() share 1/2 else 7; return x; } def g() { return 3; }"
        self.assertEqual([run(source, (), fuel)[1] for fuel in range(6)], [None, None, 7, 3, 3, 3])

    def test_a_call_without_fuel_for_its_unit(self):
        source = "def f() { emit 1; call x = g() share 1/1 else 7; } def g() {}"
        self.assertEqual(run(source, (), 1), ("dry", None, NO_CELLS, (), 0))
        self.assertEqual(run(source, (), 2), ("done", 0, NO_CELLS, (1,), 0))

    def test_a_call_without_fuel_that_must_not_pay(self):
        source = "def f() { call x = g() share 1/2 else 7; return x; } def g() {}"
        self.assertEqual(run(source, (), 2), ("done", 0, NO_CELLS, (), 0))


class Dry(Runs):
    def test_the_cells_and_the_output_are_undone(self):
        source = """
            def f() {
              put A = 1; emit 10;
              call x = g() share 1/2 else 77;
              emit x; emit A; emit B; emit C;
            }
            def g() { put A = 2; put B = 3; emit 20; emit 30; loop 999999 {} }
        """
        cells = (5, 6, 7, 0, 0, 0, 0, 0)
        self.assertEqual(run(source, (), 30, cells=cells), ("done", 0, (1, 6, 7, 0, 0, 0, 0, 0), (10, 77, 1, 6, 7), 10))

    def test_calls_within_are_undone(self):
        source = """
            def f() { call x = g() share 1/2 else 5; emit x; }
            def g() { emit 1; call y = h() share 1/2 else 6; emit y; loop 999999 {} }
            def h() { put A = 9; emit 2; return 3; }
        """
        self.assertEqual(run(source, (), 41), ("done", 0, NO_CELLS, (5,), 19))

    def test_a_call_within_that_runs_dry(self):
        source = """
            def f() { emit 1; call x = g() share 1/2 else 5; emit x; }
            def g() { put A = 4; emit 2; call y = h() share 1/2 else A + 6; emit y; return 8; }
            def h() { put A = 9; emit 3; loop 999999 {} }
        """
        self.assertEqual(run(source, (), 42), ("done", 0, first_cells(4), (1, 2, 10, 8), 26))

    def test_the_fuel_is_lost(self):
        source = "def f() { loop 3 { call x = g() share 1/2 else 5; } } def g() { loop 999999 {} }"
        self.assertEqual(run(source, (), 50)[4], 5)

    def test_the_first_call_ends_the_run(self):
        source = """
            def f() { put A = 1; emit 2; call x = g() share 1/1 else 5; put B = 3; }
            def g() { put C = 6; emit 4; }
        """
        cells = first_cells(7, 8)
        for fuel in range(6):
            self.assertEqual(run(source, (), fuel, cells=cells), ("dry", None, cells, (), 0))
        self.assertEqual(run(source, (), 6, cells=cells)[0], "done")

    def test_all_calls_may_run_dry_one_after_another(self):
        source = "def f() { call x = f() share 1/1 else 0; emit x; }"
        self.assertEqual(run(source, (), 50), ("dry", None, NO_CELLS, (), 0))

    def test_the_fallback_is_evaluated_in_the_caller_behind_the_undoing(self):
        source = """
            def f(n) { set x = 5; put A = 2; call x = g(n + 100) share 1/2 else n * x + A * 3; return x; }
            def g(n) { set x = 50; put A = 60; loop 999999 {} }
        """
        self.assertEqual(run(source, (7,), 20)[:3], ("done", 111, first_cells(2)))

    def test_the_fallback_is_not_evaluated_otherwise(self):
        source = "def f() { call x = g() share 1/1 else 9; return x; } def g() { return 4; }"
        self.assertEqual(run(source, (), 3)[1], 4)

    def test_recursive_calls(self):
        source = """
            def f(n) {
              emit n;
              call x = f(n + 1) share 2/3 else 1000;
              return x + 1;
            }
        """
        # The calls receive 20, 12, 6 and 2 units; the last one of these has 0 left when it calls.
        self.assertEqual(run(source, (0,), 20), ("done", 1003, NO_CELLS, (0, 1, 2), 9))


class Outcomes(Runs):
    def test_the_examples_of_the_interface(self):
        self.assertEqual(run(EXAMPLE, (5,), 5), ("done", 6, (5, 0, 0, 0, 0, 0, 0, 0), (5,), 0))
        self.assertEqual(run(EXAMPLE, (5,), 4), ("done", 10, NO_CELLS, (9,), 0))

    def test_the_largest_values_that_are_accepted(self):
        cells = (999999,) * 8
        source = "def f(a, b, c, d) { return a + b + c + d + A + H; }"
        self.assertEqual(run(source, (999999,) * 4, 10000, cells=cells), ("done", 999994, cells, (), 9999))

    def test_the_smallest_values_that_are_accepted(self):
        self.assertEqual(run("def f(a) {}", (0,), 0, cells=NO_CELLS), ("done", 0, NO_CELLS, (), 0))

    def test_the_kinds_of_the_parts(self):
        for fuel in (3, 4, 5):
            outcome = run(EXAMPLE, (5,), fuel)
            self.assertIs(type(outcome), tuple)
            self.assertEqual([type(outcome[place]) for place in (0, 2, 3, 4)], [str, tuple, tuple, int])

    def test_calls_as_deep_as_the_fuel(self):
        source = "def f(n) { if n > 0 { call x = f(n - 1) share 1/1 else 0; } return x + 1; }"
        self.assertEqual(run(source, (3000,), 9002), ("done", 3001, NO_CELLS, (), 0))
        self.assertEqual(run("def f() { call x = f() share 1/1 else 0; emit 1; }", (), 10000)[0], "dry")
        source = "def f() { put A = A + 1; if A < 3333 { call x = f() share 1/1 else 0; } }"
        self.assertEqual(run(source, (), 10000), ("done", 0, first_cells(3333), (), 2))

    def test_much_output(self):
        self.assertEqual(run("def f() { loop 4999 { emit 7; } }", (), 10000)[3:], ((7,) * 4999, 1))

    def test_repeated_runs(self):
        for fuel in (3, 4, 5, 4, 3, 5):
            self.assertEqual(run(EXAMPLE, (5,), fuel), Reference(EXAMPLE, (5,), fuel).outcome())

    def test_runs_that_are_made_up(self):
        statuses = []
        for source, arguments, cells in make_runs(range(250)):
            for fuel in (0, 1, 4, 9, 25, 90, 300):
                expected = Reference(source, arguments, fuel, cells).outcome()
                self.assertEqual(run(source, arguments, fuel, cells=cells), expected, (source, arguments, fuel))
                statuses.append(expected[0])
        self.assertGreater(min(statuses.count("dry"), statuses.count("done")), 500)


if __name__ == "__main__":
    unittest.main()
