"""Point 10: ranges of fuel, the first call that runs dry, and compared sources."""

import unittest

from fuelshare.analysis import compare, first_dry, fuel_ranges
from fuelshare.machine import run
from tests.helper import EXAMPLE, NO_CELLS, Reference, make_runs

# With less and less fuel first the inner call runs dry, then the outer one, then all.
NESTED = """
    def f() { call x = g() share 1/2 else 9; return x; }
    def g() { call y = h() share 1/2 else 7; return y; }
    def h() { set z = 1; return 9; }
"""

# All fuel of the share is lost, so that only the fuel left depends on it.
LOSES = "def f() { call x = g() share 1/9 else 0; } def g() { loop 999999 {} }"

# Does the same as long as it has less than 300 units.
SHORTER = "def f(n) { loop n { emit 1; } loop 299 {} }"


def ranges_by_runs(source, arguments, limit, cells):
    """Returns the ranges by looking at all amounts of fuel."""
    outcomes = [Reference(source, arguments, fuel, cells).outcome()[:4] for fuel in range(limit + 1)]
    starts = [fuel for fuel in range(limit + 1) if fuel == 0 or outcomes[fuel] != outcomes[fuel - 1]]
    ends = [start - 1 for start in starts[1:]] + [limit]
    return [(start, end) + outcomes[start] for start, end in zip(starts, ends)]


class FuelRanges(unittest.TestCase):
    def test_the_example_of_the_interface(self):
        cells = (5,) + NO_CELLS[1:]
        expected = [(0, 3, "dry", None, NO_CELLS, ()), (4, 4, "done", 10, NO_CELLS, (9,)),
                    (5, 6, "done", 6, cells, (5,))]
        self.assertEqual(fuel_ranges(EXAMPLE, (5,), 6), expected)

    def test_one_range(self):
        self.assertEqual(fuel_ranges("def f() {}", (), 20), [(0, 20, "done", 0, NO_CELLS, ())])
        self.assertEqual(fuel_ranges("def f() { loop 300 {} }", (), 300), [(0, 300, "dry", None, NO_CELLS, ())])

    def test_limits(self):
        self.assertEqual(fuel_ranges("def f() { emit 1; }", (), 0), [(0, 0, "dry", None, NO_CELLS, ())])
        expected = [(0, 0, "dry", None, NO_CELLS, ()), (1, 1, "done", 0, NO_CELLS, (1,))]
        self.assertEqual(fuel_ranges("def f() { emit 1; }", (), 1), expected)
        expected = [(0, 299, "dry", None, NO_CELLS, ()), (300, 300, "done", 0, NO_CELLS, ())]
        self.assertEqual(fuel_ranges("def f() { loop 299 {} }", (), 300), expected)

    def test_the_same_outcome_in_two_ranges(self):
        found = [entry[:4] for entry in fuel_ranges(NESTED, (), 30)]
        self.assertEqual(found, [(0, 1, "dry", None), (2, 4, "done", 9), (5, 10, "done", 7), (11, 30, "done", 9)])

    def test_the_fuel_left_does_not_count(self):
        expected = [(0, 0, "dry", None, NO_CELLS, ()), (1, 100, "done", 0, NO_CELLS, ())]
        self.assertEqual(fuel_ranges(LOSES, (), 100), expected)

    def test_each_part_of_the_outcome_counts(self):
        for statement in ("put A = x;", "put H = x;", "emit x;", "return x;"):
            source = f"def f() {{ call x = g() share 1/2 else 5; {statement} }} def g() {{ set y = 1; return 3; }}"
            self.assertEqual([entry[:2] for entry in fuel_ranges(source, (), 9)], [(0, 1), (2, 4), (5, 9)])
        source = "def f() { call x = g() share 1/2 else 0; set x = 1; } def g() { put A = 3; set y = 1; }"
        self.assertEqual([entry[:2] for entry in fuel_ranges(source, (), 9)], [(0, 1), (2, 4), (5, 9)])

    def test_given_cells(self):
        cells = (3, 999999, 0, 0, 0, 0, 0, 1)
        expected = [(0, 3, "dry", None, cells, ()), (4, 5, "done", 0, cells, ())]
        self.assertEqual(fuel_ranges("def f() { loop A {} }", (), 5, cells=cells), expected)

    def test_endless_runs(self):
        source = "def f() { call x = f() share 1/2 else 4; return 7; }"
        self.assertEqual([entry[:4] for entry in fuel_ranges(source, (), 300)],
                         [(0, 1, "dry", None), (2, 300, "done", 7)])

    def test_the_list_may_be_modified(self):
        ranges = fuel_ranges(EXAMPLE, (5,), 6)
        expected = list(ranges)
        self.assertEqual([type(ranges)] + [type(entry) for entry in ranges], [list] + [tuple] * 3)
        ranges.append("more")
        ranges[0] = None
        self.assertEqual(fuel_ranges(EXAMPLE, (5,), 6), expected)

    def test_ranges_that_are_made_up(self):
        many = 0
        for source, arguments, cells in make_runs(range(2000, 2150)):
            expected = ranges_by_runs(source, arguments, 60, cells)
            self.assertEqual(fuel_ranges(source, arguments, 60, cells=cells), expected, source)
            many += len(expected) > 2
        self.assertGreater(many, 8)


class FirstDry(unittest.TestCase):
    def test_the_examples_of_the_interface(self):
        self.assertEqual(first_dry(EXAMPLE, (5,), 4), ("half", 2))
        self.assertIsNone(first_dry(EXAMPLE, (5,), 5))

    def test_the_first_function(self):
        self.assertEqual(first_dry("def f() { emit 1; }", (), 0), ("f", 1))
        self.assertIsNone(first_dry("def f() { emit 1; }", (), 1))
        self.assertIsNone(first_dry("def f() {}", (), 0))

    def test_the_first_of_several_calls(self):
        self.assertEqual(first_dry(NESTED, (), 10), ("h", 3))
        self.assertEqual(first_dry(NESTED, (), 3), ("h", 3))
        self.assertEqual(first_dry(NESTED, (), 2), ("g", 2))
        self.assertEqual(first_dry(NESTED, (), 0), ("f", 1))
        self.assertIsNone(first_dry(NESTED, (), 11))

    def test_calls_that_have_ended_do_not_count(self):
        source = """
            def f() { loop 3 { call x = h() share 1/1 else 0; } call x = g() share 1/2 else 0; }
            def g() { call x = h() share 1/1 else 0; emit 1; call x = h() share 1/2 else 0; }
            def h() { emit 2; }
        """
        for fuel, expected in ((3, ("h", 2)), (4, ("f", 1)), (9, ("h", 2)), (10, ("f", 1)), (12, ("g", 2)),
                               (13, ("h", 3)), (16, ("g", 2)), (22, ("h", 3)), (23, None)):
            self.assertEqual(first_dry(source, (), fuel), expected, fuel)

    def test_recursive_calls(self):
        source = "def f() { call x = f() share 1/2 else 0; }"
        self.assertEqual(first_dry(source, (), 15), ("f", 5))
        self.assertEqual(first_dry(source, (), 10000), ("f", 14))
        self.assertEqual(first_dry("def f() { call x = f() share 1/1 else 0; }", (), 10000), ("f", 10001))

    def test_given_cells(self):
        source = "def f() { loop A {} }"
        self.assertEqual(first_dry(source, (), 3, cells=(3,) + NO_CELLS[1:]), ("f", 1))
        self.assertIsNone(first_dry(source, (), 3))

    def test_the_kinds_of_the_values(self):
        self.assertIs(type(first_dry(EXAMPLE, (5,), 4)), tuple)

    def test_runs_that_are_made_up(self):
        depths = []
        for source, arguments, cells in make_runs(range(2100, 2200)):
            for fuel in (0, 2, 5, 11, 40, 150):
                events = Reference(source, arguments, fuel, cells).events
                found = first_dry(source, arguments, fuel, cells=cells)
                kinds = [event[0] for event in events]
                if found is None:
                    self.assertNotIn("dry", kinds)
                else:
                    name, depth = found
                    place = kinds.index("dry")
                    self.assertEqual(name, events[place][1])
                    self.assertEqual(depth, kinds[:place].count("call") - kinds[:place].count("return"))
                    depths.append(depth)
        self.assertEqual(sorted(set(depths))[:3], [1, 2, 3])


class Compare(unittest.TestCase):
    def check(self, first, second, limit, expected, arguments=(), cells=NO_CELLS):
        """The sources must differ first with this fuel, in both directions."""
        self.assertEqual(compare(first, second, arguments, limit, cells=cells), expected)
        self.assertEqual(compare(second, first, arguments, limit, cells=cells), expected)
        self.assertIsNone(compare(first, first, arguments, limit, cells=cells))

    def test_the_example_of_the_interface(self):
        self.check("def f() { return 1; }", "def f() { emit 2; return 1; }", 9, 1)

    def test_each_part_of_the_outcome_counts(self):
        for other in ("return 2;", "put A = 1;", "put H = 1;", "emit 0;", "loop 1 {}"):
            self.check("def f() { return 0; }", f"def f() {{ {other} }}", 5, 1)
        self.check("def f() { put A = 1; emit 2; }", "def f() { put A = 1; emit 3; }", 5, 2)

    def test_the_fuel_left_does_not_count(self):
        self.check(LOSES, LOSES.replace("1/9", "1/1"), 300, None)
        self.check(LOSES, "def f() { set x = 1; }", 300, None)
        self.assertNotEqual(run(LOSES, (), 50), run("def f() { set x = 1; }", (), 50))

    def test_limits(self):
        self.check("def f() { emit 1; }", "def f() { emit 2; }", 0, None)
        self.check("def f() {}", "def f() { emit 2; }", 0, 0)
        self.check("def f() { loop 298 {} }", "def f() { loop 299 {} }", 300, 299)
        self.check("def f() { loop 298 {} }", "def f() { loop 299 {} }", 298, None)
        self.check("def f() { loop 299 {} }", "def f() { loop 299 {} emit 1; }", 300, 300)
        self.check("def f() { loop 300 {} }", "def f() { loop 999999 {} }", 300, None)

    def test_only_some_fuel_makes_a_difference(self):
        self.check(NESTED, NESTED.replace("else 7", "else 8"), 300, 5)
        self.check(NESTED, NESTED.replace("else 7", "else 8"), 4, None)
        self.check(NESTED, NESTED.replace("return 9", "return 8"), 300, 11)
        self.check(NESTED, NESTED.replace("else 9", "else 8"), 300, 2)

    def test_arguments_and_cells(self):
        first = "def f(n) { loop n {} return A; }"
        second = "def g(m) { loop m {} return B; }"
        self.check(first, second, 50, None, (7,))
        self.check(first, second, 50, 9, (7,), (1,) + NO_CELLS[1:])
        self.check(first, second, 50, None, (7,), (999999, 999999) + NO_CELLS[2:])

    def test_sources_that_are_made_up(self):
        found = []
        runs = make_runs(range(2300, 2360))
        for source, arguments, cells in runs:
            other = source.replace("else 0;", "else 1;").replace("2", "1", 1)
            expected = [fuel for fuel in range(41) if Reference(source, arguments, fuel, cells).outcome()[:4]
                        != Reference(other, arguments, fuel, cells).outcome()[:4]]
            found.append(compare(source, other, arguments, 40, cells=cells))
            self.assertEqual(found[-1], expected[0] if expected else None, source)
        self.assertGreater(found.count(None), 5)
        self.assertGreater(len([fuel for fuel in found if fuel]), 5)


if __name__ == "__main__":
    unittest.main()
