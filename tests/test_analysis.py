"""Point 9: the full run and the fuel that it needs."""

import re
import unittest

from fuelshare import analysis
from fuelshare.analysis import call_needs, full_run, least_fuel, share_effects
from fuelshare.errors import Endless
from fuelshare.machine import run, trace
from tests.helper import EXAMPLE, NO_CELLS, Reference, full_reference, make_runs

THIRD = "def f() { call x = g() share 1/3 else 0; } def g() { emit 1; emit 2; }"


def runs_dry(source, arguments, fuel, cells=NO_CELLS):
    """Returns whether some call runs dry with so much fuel."""
    return Reference(source, arguments, fuel, cells).has_dry()


def put_first(source, name):
    """Returns the source with the function of this name at its beginning."""
    functions = re.split(r"\n(?=def )", source)
    chosen = [function for function in functions if function.startswith(f"def {name}(")]
    return "\n".join(chosen + [function for function in functions if function not in chosen])


def ease(source, place):
    """Returns the source with 1/1 as its share at this place."""
    shares = list(re.finditer(r"share [0-9]/[0-9]", source))
    return source[:shares[place].start()] + "share 1/1" + source[shares[place].end():]


def count_down(share, last=""):
    """Returns a source whose function calls itself n times; each call takes two steps, the last one one step."""
    return f"def f(n) {{ if n > 0 {{ call x = f(n - 1) share {share} else 0; }} {last} }}"


class FullRun(unittest.TestCase):
    def check_endless(self, source, arguments=()):
        """All functions must raise Endless."""
        for function in (full_run, least_fuel, call_needs, share_effects):
            with self.assertRaises(Endless):
                function(source, arguments)

    def test_the_example_of_the_interface(self):
        self.assertEqual(full_run(EXAMPLE, (5,)), (6, (5, 0, 0, 0, 0, 0, 0, 0), (5,), 5))

    def test_a_function_without_statements(self):
        self.assertEqual(full_run("def f() {}", ()), (0, NO_CELLS, (), 0))
        self.assertEqual(least_fuel("def f() {}", ()), 0)
        self.assertEqual(call_needs("def f() {}", ()), [("f", 0, 0)])
        self.assertEqual(share_effects("def f() {}", ()), [])

    def test_shares_do_not_matter(self):
        for share in ("1/9", "1/2", "9/9"):
            source = f"def f() {{ call x = g() share {share} else 9; return x; }} def g() {{ loop 20 {{}} return 4; }}"
            self.assertEqual(full_run(source, ()), (4, NO_CELLS, (), 24))

    def test_given_cells(self):
        cells = (999999, 7, 0, 0, 0, 0, 0, 3)
        source = "def f(n) { put A = A + n; emit B; return H; }"
        self.assertEqual(full_run(source, (2,), cells=cells), (3, (1,) + cells[1:], (7,), 3))

    def test_cells_may_change_what_is_needed(self):
        source = "def f() { loop A {} }"
        self.assertEqual([least_fuel(source, (), cells=(n,) + NO_CELLS[1:]) for n in (0, 5, 70)], [1, 6, 71])
        self.assertEqual(call_needs(source, (), cells=(5,) + NO_CELLS[1:]), [("f", 6, 6)])

    def test_five_thousand_steps(self):
        self.assertEqual(full_run("def f(n) { loop n {} }", (4999,)), (0, NO_CELLS, (), 5000))
        self.assertEqual(least_fuel("def f(n) { loop n {} }", (4999,)), 5000)
        self.assertEqual(call_needs("def f(n) { loop n {} }", (4999,)), [("f", 5000, 5000)])
        self.assertEqual(full_run(count_down("1/9", "emit n;"), (1666,))[3], 5000)
        self.assertEqual(full_run("def f() { loop 4998 {} return 5; }", ()), (5, NO_CELLS, (), 5000))

    def test_more_than_five_thousand_steps(self):
        self.check_endless("def f(n) { loop n {} }", (5000,))
        self.check_endless("def f(n) { loop n {} }", (999999,))
        self.check_endless("def f() { loop 4999 {} return 5; }")
        self.check_endless(count_down("1/9", "emit n; emit n;"), (1250,))
        self.assertEqual(full_run(count_down("1/9", "emit n; emit n;"), (1249,))[3], 4999)

    def test_calls_without_end(self):
        self.check_endless("def f() { call x = f() share 1/1 else 0; }")
        self.check_endless("def f() { call x = f() share 1/9 else 0; }")
        self.check_endless("def f() { call x = g() share 1/2 else 0; } def g() { call x = f() share 1/2 else 0; }")

    def test_calls_without_end_that_end_when_they_run_dry(self):
        source = "def f() { call x = f() share 1/2 else 0; return 7; }"
        self.assertEqual(run(source, (), 10)[:2], ("done", 7))
        self.check_endless(source)

    def test_deep_calls(self):
        self.assertEqual(full_run(count_down("1/1"), (2499,)), (0, NO_CELLS, (), 4999))
        self.check_endless(count_down("1/1"), (2500,))
        self.assertEqual(full_run("def f() { put A = A + 1; if A < 1667 { call x = f() share 1/1 else 0; } }", ())[3],
                         5000)

    def test_full_runs_that_are_made_up(self):
        many = 0
        for source, arguments, cells in make_runs(range(800, 1000)):
            expected = full_reference(source, arguments, cells)
            if expected is None:
                self.check_endless_with(source, arguments, cells)
            else:
                many += 1
                found = full_run(source, arguments, cells=cells)
                self.assertEqual(found, expected.outcome()[1:4] + (len(expected.states),), source)
        self.assertGreater(many, 100)
        self.assertLess(many, 190)

    def check_endless_with(self, source, arguments, cells):
        with self.assertRaises(Endless):
            full_run(source, arguments, cells=cells)


class LeastFuel(unittest.TestCase):
    def check_least(self, source, least, arguments=(), cells=NO_CELLS):
        """This must be the least fuel: with less some call runs dry, with more none and it is the full run."""
        self.assertEqual(least_fuel(source, arguments, cells=cells), least)
        full = full_run(source, arguments, cells=cells)[:3]
        for fuel in (least, least + 1, least + 2, least * 2 + 3):
            events = trace(source, arguments, fuel, cells=cells)
            self.assertNotIn("dry", [event[0] for event in events])
            self.assertEqual(run(source, arguments, fuel, cells=cells)[:4], ("done",) + full)
        for fuel in range(least):
            events = trace(source, arguments, fuel, cells=cells)
            self.assertIn("dry", [event[0] for event in events], fuel)

    def test_the_example_of_the_interface(self):
        self.check_least(EXAMPLE, 5, (5,))

    def test_without_calls(self):
        self.check_least("def f() { emit 1; loop 3 { emit 2; } return 5; emit 6; }", 9)

    def test_a_call_that_needs_more_than_what_follows(self):
        self.check_least(THIRD, 7)
        self.check_least("def f() { emit 1; call x = g() share 2/9 else 0; } def g() { emit 1; }", 7)
        self.check_least("def f() { call x = g() share 4/9 else 0; emit 3; } def g() { loop 3 {} }", 10)

    def test_what_follows_needs_more_than_a_call(self):
        self.check_least("def f() { call x = g() share 1/2 else 0; loop 9 {} } def g() { emit 1; }", 12)

    def test_as_much_as_what_follows(self):
        self.check_least("def f() { call x = g() share 1/2 else 0; emit 1; } def g() { emit 1; }", 3)

    def test_a_call_that_needs_nothing(self):
        self.check_least("def f() { call x = g() share 1/9 else 0; } def g() {}", 1)

    def test_several_calls(self):
        source = "def f() { loop 3 { call x = g() share 1/2 else 0; } } def g() { emit 1; emit 2; emit 3; }"
        self.check_least(source, 19)

    def test_calls_within_calls(self):
        source = """
            def f() { call x = g() share 1/2 else 0; emit x; }
            def g() { emit 1; call x = h() share 1/3 else 0; emit x; }
            def h() { emit 2; emit 3; }
        """
        self.check_least(source, 17)

    def test_calls_of_a_function_to_itself(self):
        self.check_least(count_down("1/2"), 2 ** 5 + 2 * (2 ** 5 - 1), (5,))
        self.check_least(count_down("2/3", "emit n;"), 44, (5,))

    def test_more_than_a_run_may_have(self):
        self.assertEqual(least_fuel(count_down("1/2"), (12,)), 3 * 2 ** 12 - 2)
        self.assertEqual(least_fuel(count_down("1/2"), (2499,)), 3 * 2 ** 2499 - 2)
        self.assertEqual(call_needs(count_down("1/2"), (2499,))[0], ("f", 3 * 2 ** 2499 - 2, 4999))
        self.assertEqual(share_effects(count_down("1/2"), (2499,)), [4999])

    def test_least_fuel_of_runs_that_are_made_up(self):
        for source, arguments, cells in make_runs(range(1000, 1250)):
            if full_reference(source, arguments, cells) is not None:
                least = least_fuel(source, arguments, cells=cells)
                self.assertFalse(runs_dry(source, arguments, least, cells), source)
                if least > 0:
                    self.assertTrue(runs_dry(source, arguments, least - 1, cells), source)


class CallNeeds(unittest.TestCase):
    def test_the_example_of_the_interface(self):
        self.assertEqual(call_needs(EXAMPLE, (5,)), [("main", 5, 5), ("half", 2, 2)])

    def test_in_the_order_in_which_calls_begin(self):
        source = """
            def f() { call x = g(2) share 1/2 else 0; call x = h() share 1/1 else 0; call x = g(0) share 1/3 else 0; }
            def g(n) { loop n { call x = h() share 1/4 else 0; } }
            def h() { emit 1; }
        """
        # Before the second h, g(2) and its first h have used 6; then it must hold 4.
        expected = [("f", 21, 12), ("g", 10, 7), ("h", 1, 1), ("h", 1, 1), ("h", 1, 1), ("g", 1, 1)]
        self.assertEqual(call_needs(source, ()), expected)

    def test_use_with_that_of_the_calls_within(self):
        self.assertEqual(call_needs(count_down("1/2"), (2,)), [("f", 10, 5), ("f", 4, 3), ("f", 1, 1)])
        self.assertEqual(call_needs(count_down("4/7"), (2,)), [("f", 9, 5), ("f", 4, 3), ("f", 1, 1)])

    def test_a_call_that_returns_early(self):
        source = "def f() { call x = g() share 1/1 else 0; emit x; } def g() { loop 9 { return 3; } }"
        self.assertEqual(call_needs(source, ()), [("f", 5, 5), ("g", 3, 3)])

    def test_needs_of_runs_that_are_made_up(self):
        many = 0
        for source, arguments, cells in make_runs(range(1300, 1500)):
            expected = full_reference(source, arguments, cells)
            if expected is not None and len(expected.begins) < 20:
                found = call_needs(source, arguments, cells=cells)
                self.assertEqual([entry[0] for entry in found], [begin[0] for begin in expected.begins])
                for (name, need, use), begin in zip(found, expected.begins):
                    self.check_need(put_first(source, name), begin, need, use)
                many += len(found) > 2
        self.assertGreater(many, 10)

    def check_need(self, source, begin, need, use):
        """The need and the use must be those of a run of the call alone."""
        _, arguments, cells = begin
        alone = Reference(source, arguments, need, cells)
        self.assertFalse(alone.has_dry(), source)
        self.assertEqual(need - alone.rest, use, source)
        if need > 0:
            self.assertTrue(runs_dry(source, arguments, need - 1, cells), source)


class ShareEffects(unittest.TestCase):
    def test_the_example_of_the_interface(self):
        self.assertEqual(share_effects(THIRD, ()), [3])

    def test_each_call_by_itself(self):
        source = """
            def f() { call x = g() share 1/3 else 0; call y = h() share 1/5 else 0; }
            def g() { call x = h() share 1/2 else 0; }
            def h() { emit 1; emit 2; }
        """
        # g needs 5, or 3 with 1/1; before the second h the first two calls use 4 with that of h.
        self.assertEqual(least_fuel(source, ()), 16)
        self.assertEqual(share_effects(source, ()), [15, 16, 15])
        self.assertEqual(share_effects(source.replace("1/5", "1/1"), ()), [7, 16, 10])

    def test_all_executions_of_a_call(self):
        source = "def f() { loop 2 { call x = g() share 1/4 else 0; } } def g() { emit 1; emit 2; }"
        self.assertEqual((least_fuel(source, ()), share_effects(source, ())), (15, [9]))
        self.assertEqual(share_effects(count_down("1/2"), (5,)), [11])

    def test_in_textual_order(self):
        source = """
            def f() {
              loop 1 { if 1 = 1 { call x = g(3) share 1/9 else 0; } else { call x = g(9) share 1/2 else 0; } }
              call x = g(5) share 1/8 else 0;
            }
            def g(n) { loop n {} }
        """
        self.assertEqual(least_fuel(source, ()), 57)
        self.assertEqual(share_effects(source, ()), [57, 57, 40])

    def test_calls_that_are_never_executed(self):
        source = THIRD + " def h() { call x = g() share 1/9 else 0; call y = h() share 1/9 else 0; }"
        self.assertEqual(share_effects(source, ()), [3, 7, 7])
        source = "def f(n) { if n > 3 { call x = g() share 1/3 else 0; } } def g() { emit 1; emit 2; }"
        self.assertEqual((share_effects(source, (3,)), share_effects(source, (4,))), ([1], [4]))

    def test_a_share_that_is_one_already(self):
        self.assertEqual(share_effects(THIRD.replace("1/3", "1/1"), ()), [3])
        self.assertEqual(share_effects(THIRD.replace("1/3", "9/9"), ()), [3])

    def test_effects_of_runs_that_are_made_up(self):
        changed = 0
        for source, arguments, cells in make_runs(range(1500, 1700)):
            if full_reference(source, arguments, cells) is not None:
                effects = share_effects(source, arguments, cells=cells)
                self.assertEqual(len(effects), source.count("share"))
                for place, least in enumerate(effects):
                    eased = ease(source, place)
                    self.assertFalse(runs_dry(eased, arguments, least, cells), source)
                    self.assertTrue(least == 0 or runs_dry(eased, arguments, least - 1, cells), source)
                changed += len({least_fuel(source, arguments, cells=cells), *effects}) > 1
        self.assertGreater(changed, 10)


class Results(unittest.TestCase):
    def test_the_kinds_of_the_values(self):
        result = full_run(EXAMPLE, (5,))
        self.assertEqual([type(part) for part in result], [int, tuple, tuple, int])
        self.assertIs(type(result), tuple)
        self.assertIs(type(least_fuel(EXAMPLE, (5,))), int)
        needs = call_needs(EXAMPLE, (5,))
        self.assertEqual([type(needs)] + [type(entry) for entry in needs], [list, tuple, tuple])
        self.assertIs(type(share_effects(EXAMPLE, (5,))), list)

    def test_returned_lists_may_be_modified(self):
        for function, expected in ((call_needs, [("main", 5, 5), ("half", 2, 2)]), (share_effects, [5])):
            result = function(EXAMPLE, (5,))
            self.assertEqual(result, expected)
            result.append("more")
            result[0] = None
            self.assertEqual(function(EXAMPLE, (5,)), expected)

    def test_the_largest_values(self):
        source = "def f(a, b, c, d) { return a + H; }"
        self.assertEqual(full_run(source, (999999,) * 4, cells=(999999,) * 8), (999998, (999999,) * 8, (), 1))

    def test_they_are_defined_in_their_file(self):
        for name in ("full_run", "least_fuel", "call_needs", "share_effects", "fuel_ranges", "first_dry", "compare"):
            self.assertEqual(getattr(analysis, name).__module__, "fuelshare.analysis")


if __name__ == "__main__":
    unittest.main()
