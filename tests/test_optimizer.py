"""Point 11: optimized sources."""

import re
import unittest

from fuelshare import optimizer
from fuelshare.analysis import full_run, least_fuel
from fuelshare.errors import Endless
from fuelshare.formatter import format_source
from fuelshare.optimizer import optimize, savings
from tests.helper import EXAMPLE, KEYWORDS, NO_CELLS, Maker, Reader, full_reference, make_runs

EXAMPLE_OF_THE_INTERFACE = "def f(n) { set x = 2 + 3; if 1 < 2 { return n; } emit x; }"


def list_blocks(block):
    """Returns a block and all blocks in it, lists of statements."""
    found = [block]
    for statement in block:
        for part in statement[1:]:
            if is_block(part):
                found.extend(list_blocks(part))
    return found


def is_block(part):
    """Returns whether a part of a statement is a block; an expression is a list of texts."""
    return isinstance(part, list) and (not part or isinstance(part[0], tuple))


def list_expressions(statement):
    """Returns the expressions of a statement."""
    found = []
    if statement[0] == "call":
        return statement[3] + [statement[6]]
    for part in statement[1:]:
        if isinstance(part, list) and not is_block(part):
            found.append(part)
    return found


def reach(name, calls):
    """Returns the set of a function and all functions that it can reach."""
    found = {name}
    while True:
        more = found | {other for function in found for other in calls[function]}
        if more == found:
            return found
        found = more


def list_flaws(source):
    """Returns a set of words for what point 11 lists, as far as the source contains it."""
    functions = Reader(source).read_source()
    all_statements = {}
    for name, (_, body) in functions.items():
        all_statements[name] = [statement for block in list_blocks(body) for statement in block]
    calls = {name: {entry[2] for entry in found if entry[0] == "call"} for name, found in all_statements.items()}
    loud = {name for name, found in all_statements.items() if {"put", "emit"} & {entry[0] for entry in found}}
    flaws = set()
    if reach(list(functions)[0], calls) != set(functions):
        flaws.add("function")
    for name, (_, body) in functions.items():
        for block in list_blocks(body):
            if "return" in [statement[0] for statement in block[:-1]]:
                flaws.add("behind return")
        used = {term for entry in all_statements[name] for expression in list_expressions(entry)
                for term in expression[::2]}
        for statement in all_statements[name]:
            flaws |= flaws_of(statement, used)
            if statement[0] == "call" and statement[1] not in used and not reach(statement[2], calls) & loud:
                flaws.add("call")
    return flaws


def flaws_of(statement, used):
    """Returns the flaws of one statement."""
    flaws = set()
    keyword = statement[0]
    expressions = list_expressions(statement)
    single = [len(expression) == 1 and expression[0].isdigit() for expression in expressions]
    if keyword == "if" and all(single):
        flaws.add("if of numbers")
    if keyword == "if" and statement[4] == statement[5]:
        flaws.add("if with equal blocks")
    if keyword == "loop" and statement[1] in (["0"], ["1"]):
        flaws.add("loop of 0 or 1")
    if keyword == "loop" and not statement[2]:
        flaws.add("loop of nothing")
    if keyword == "set" and statement[1] not in used:
        flaws.add("set unread")
    if keyword == "set" and statement[2] == [statement[1]]:
        flaws.add("set to itself")
    for expression in expressions:
        if len(expression) > 1 and expression[0].isdigit() and expression[2].isdigit():
            flaws.add("numbers")
    return flaws


class Optimizer(unittest.TestCase):
    def check_equivalent(self, source, runs):
        """The returned source must be canonical, without flaws, and do the same in full runs with no more fuel."""
        better = optimize(source)
        self.assertEqual(format_source(better), better)
        self.assertEqual(list_flaws(better), set(), source)
        self.assertLessEqual(set(re.findall("[a-z]+", better)) - set(KEYWORDS), set(re.findall("[a-z]+", source)))
        self.assertEqual(optimize(better), better)
        for arguments, cells in runs:
            before = full_reference(source, arguments, cells)
            if before is not None:
                after = full_reference(better, arguments, cells)
                self.assertEqual(after.outcome()[:4], before.outcome()[:4], (source, arguments, cells))
                self.assertLessEqual(least_fuel(better, arguments, cells=cells),
                                     least_fuel(source, arguments, cells=cells), source)
        return better

    def check_body(self, body, expected, flaw=None, cells=NO_CELLS):
        """A function with this body must become one with that body; a flaw that the first one has is given, too."""
        source = f"def f(a, b) {{ {body} }} def g(n) {{ emit n; return n; }} def h(n) {{ return n; }}"
        if flaw is not None:
            self.assertIn(flaw, list_flaws(source + " def i(n) { call x = g(n) share 1/1 else 0; }"))
        better = self.check_equivalent(source, [((2, 3), cells), ((0, 999999), cells), ((5, 5), cells)])
        wanted = format_source(f"def f(a, b) {{ {expected} }} def g(n) {{}} def h(n) {{}}").split("\n}")[0]
        self.assertEqual(better.split("\n}")[0], wanted, body)


class Patterns(Optimizer):
    def test_the_example_of_the_interface(self):
        self.assertEqual(optimize(EXAMPLE_OF_THE_INTERFACE), "def f(n) {\n  return n;\n}")

    def test_nothing_to_do(self):
        self.assertEqual(self.check_equivalent(EXAMPLE, [((5,), NO_CELLS)]), format_source(EXAMPLE))
        self.assertEqual(optimize("def f() {}"), "def f() {\n}")
        body = """
            set x = a + 1 + 2; loop 2 { emit x; } if a < 3 { emit 1; } else { emit 2; }
            call x = g(x) share 1/2 else x; call y = h(x) share 1/2 else 0; put A = y; return x;
        """
        self.check_body(body, body)

    def test_behind_a_return(self):
        self.check_body("return 1; emit 2; loop 3 { emit 4; }", "return 1;", "behind return")
        self.check_body("return a; return b;", "return a;", "behind return")
        self.check_body("loop a { emit 1; return 2; emit 3; } emit 4;", "loop a { emit 1; return 2; } emit 4;",
                        "behind return")
        self.check_body("if a < b { return 1; emit 2; } else { emit 3; return 4; return 5; } emit 6;",
                        "if a < b { return 1; } else { emit 3; return 4; } emit 6;", "behind return")

    def test_an_if_of_numbers(self):
        for comparison, order in (("1 < 2", True), ("2 < 1", False), ("1 < 1", False), ("1 = 1", True),
                                  ("1 = 2", False), ("2 > 1", True), ("1 > 1", False), ("10 > 9", True)):
            self.check_body(f"if {comparison} {{ emit 1; emit 2; }} else {{ emit 3; }} emit 4;",
                            "emit 1; emit 2; emit 4;" if order else "emit 3; emit 4;", "if of numbers")
            self.check_body(f"if {comparison} {{ emit a; }}", "emit a;" if order else "", "if of numbers")

    def test_an_if_of_expressions_of_numbers(self):
        self.check_body("if 2 + 3 * 4 = 20 { emit 1; } else { emit 2; }", "emit 1;", "numbers")
        self.check_body("if 0 - 1 > 5 { emit 1; } else { emit 2; }", "emit 1;", "numbers")

    def test_an_if_with_equal_blocks(self):
        self.check_body("if a < b { emit 1; } else { emit 1; }", "emit 1;", "if with equal blocks")
        self.check_body("if a < b {} else {}", "", "if with equal blocks")
        self.check_body("if a < b {}", "", "if with equal blocks")
        self.check_body("if a < b { if a = 1 {emit 2;} else {} } else { if a=1 { emit 2; } }", "if a = 1 { emit 2; }",
                        "if with equal blocks")
        self.check_body("if a < b { emit 1; } else { emit 2; }", "if a < b { emit 1; } else { emit 2; }")

    def test_blocks_that_become_equal(self):
        self.check_body("if a < b { emit 1 + 2; return a; emit 4; } else { emit 3; loop 1 { return a; } } emit 9;",
                        "emit 3; return a;")
        self.check_body("if a < b { set a = a; } else { loop a {} } emit 9;", "emit 9;")

    def test_an_if_with_an_empty_block(self):
        for body in ("if a < b { emit 1; }", "if a < b {} else { emit 1; }"):
            self.check_body(body, body)

    def test_loops(self):
        self.check_body("loop 0 { emit 1; } emit 2;", "emit 2;", "loop of 0 or 1")
        self.check_body("loop 1 { emit 1; emit 3; } emit 2;", "emit 1; emit 3; emit 2;", "loop of 0 or 1")
        self.check_body("loop 2 { emit 1; }", "loop 2 { emit 1; }")
        self.check_body("loop 10 { emit 1; }", "loop 10 { emit 1; }")
        self.check_body("loop 5 {} emit 2;", "emit 2;", "loop of nothing")
        self.check_body("loop a + b {} emit 2;", "emit 2;", "loop of nothing")
        self.check_body("loop 3 - 2 { emit 1; } loop 999999 + 1 { emit 2; }", "emit 1;", "numbers")
        self.check_body("loop a { loop b { loop 3 {} } } emit 2;", "emit 2;", "loop of nothing")

    def test_a_loop_of_one_that_returns(self):
        self.check_body("loop 1 { emit 1; return 2; } emit 3;", "emit 1; return 2;", "loop of 0 or 1")

    def test_a_set_that_is_not_read(self):
        self.check_body("set x = 1; emit a;", "emit a;", "set unread")
        self.check_body("set a = b; emit b;", "emit b;", "set unread")
        self.check_body("set x = a; set y = x; set z = y; emit b;", "emit b;", "set unread")
        self.check_body("loop a { set x = 1; } emit b;", "emit b;", "set unread")
        self.check_body("set x = 1; call y = h(x) share 1/1 else 0; emit b;", "emit b;", "call")

    def test_all_places_where_a_local_is_read(self):
        for use in ("emit x;", "return x;", "put A = b + x;", "set y = a * x; emit y;", "if x < 1 { emit 1; }",
                    "if 1 < x { emit 1; }", "loop x { emit 1; }", "call y = g(x) share 1/1 else 0;",
                    "call y = g(1) share 1/1 else x;", "loop a { if a < b {} else { emit x; } }"):
            body = f"set x = a; {use}"
            self.check_body(body, body)

    def test_a_set_to_the_same_local(self):
        self.check_body("set a = a; emit a;", "emit a;", "set to itself")
        self.check_body("set x = b; set x = x; emit x;", "set x = b; emit x;", "set to itself")
        self.check_body("loop b { set x = x + 1; set x = x; emit x; }", "loop b { set x = x + 1; emit x; }",
                        "set to itself")

    def test_a_local_whose_only_set_is_taken_away(self):
        self.check_body("set x = x; emit x; return x;", "emit 0; return 0;", "set to itself")
        self.check_body("emit x; emit a + x; return x + 5 * a; set x = 7;", "emit 0; emit a + 0; return 5 * a;",
                        "behind return")
        self.check_body("if 1 = 2 { set x = 7; } if x = 0 { emit 1; } else { emit 2; }", "emit 1;", "if of numbers")
        self.check_body("loop 0 { call x = g(1) share 1/1 else 0; } loop x + 1 { emit 3; }", "emit 3;",
                        "loop of 0 or 1")
        self.check_body("set x = x; call y = g(x) share 1/1 else x; emit y;",
                        "call y = g(0) share 1/1 else 0; emit y;", "set to itself")
        self.check_body("emit a; set a = a; emit a;", "emit a; emit a;", "set to itself")

    def test_a_call_that_is_not_read(self):
        self.check_body("call x = h(a) share 1/2 else 3; emit 1;", "emit 1;", "call")
        self.check_body("call a = h(a) share 1/2 else 3; emit b;", "call a = h(a) share 1/2 else 3; emit b;")
        self.check_body("call x = g(a) share 1/2 else 3; emit 1;", "call x = g(a) share 1/2 else 3; emit 1;")
        self.check_body("call x = h(a) share 1/2 else x; emit 1;", "call x = h(a) share 1/2 else x; emit 1;")

    def test_numbers(self):
        for expression, expected in (("2 + 3", "5"), ("2 - 3", "999999"), ("2 * 3", "6"), ("999999 + 1", "0"),
                                     ("2 + 3 * 4", "20"), ("2 + 3 * a", "5 * a"),
                                     ("2 + 3 * a + 1 + 2", "5 * a + 1 + 2"),
                                     ("a + 2 + 3", "a + 2 + 3"), ("A + 2 + 3", "A + 2 + 3"), ("2 + a + 3", "2 + a + 3"),
                                     ("0 + a", "0 + a"), ("999999 * 999999 - A", "1 - A"), ("7", "7"), ("a", "a"),
                                     ("1 + 2 + 3 + 4 + b - 5 - 6", "10 + b - 5 - 6")):
            flaw = "numbers" if expression != expected else None
            for statement in ("emit {};", "put A = {};", "return {};", "call x = g({}) share 1/1 else 0;",
                              "call x = g(1) share 1/1 else {};", "set x = {}; emit x;", "if {} < a {{ emit 1; }}",
                              "if a = {} {{ emit 1; }}"):
                self.check_body(statement.format(expression), statement.format(expected), flaw)
        self.check_body("loop 1 + 2 - A { emit 1; }", "loop 3 - A { emit 1; }", "numbers", (1,) + NO_CELLS[1:])


class Functions(Optimizer):
    def check(self, source, expected, flaw, arguments=()):
        """A source must have this flaw, and become the other one."""
        self.assertIn(flaw, list_flaws(source))
        self.assertEqual(self.check_equivalent(source, [(arguments, NO_CELLS)]), format_source(expected))

    def test_functions_that_cannot_be_reached(self):
        self.check("def f() {} def g() { emit 1; }", "def f() {}", "function")
        self.check("def f() { emit 1; } def g() { call x = h() share 1/1 else 0; } def h() { put A = 1; }",
                   "def f() { emit 1; }", "function")
        self.check("def f() {} def g() { call x = g() share 1/1 else 0; call y = f() share 1/1 else 0; emit 1; }",
                   "def f() {}", "function")

    def test_functions_that_can_be_reached_through_others(self):
        source = """
            def f() { call x = h() share 1/1 else 0; }
            def g() { emit 2; }
            def h() { if A > 0 { loop A { call x = i() share 1/1 else 0; } } }
            def i() { emit 1; call y = f() share 1/1 else 0; }
        """
        expected = re.sub(r"def g\(\).*", "", source)
        self.check(source, expected, "function")

    def test_functions_whose_calls_are_taken_away(self):
        self.check("def f() { return 1; call x = g() share 1/1 else 0; } def g() { emit 1; }", "def f() { return 1; }",
                   "behind return")
        self.check("def f() { call x = g() share 1/1 else 0; } def g() { set y = 1; }", "def f() {}", "call")

    def test_calls_of_functions_that_put_or_emit_through_others(self):
        source = """
            def f() { call x = g() share 1/1 else 0; call x = i() share 1/1 else 0; emit 3; }
            def g() { call x = h() share 1/1 else 0; }
            def h() { if A < 0 { put B = 1; } }
            def i() { return 1; }
        """
        expected = re.sub(r"def i\(\).*", "", source).replace("call x = i() share 1/1 else 0;", "")
        self.check(source, expected, "call")

    def test_calls_of_functions_that_no_longer_put_or_emit(self):
        source = """
            def f() { call x = g() share 1/1 else 0; return 4; }
            def g() { call x = h() share 1/1 else 0; return x; put A = 1; }
            def h() { if 1 = 2 { emit 3; } return 5; }
        """
        self.check(source, "def f() { return 4; }", "behind return")

    def test_calls_of_functions_that_call_themselves(self):
        self.check("def f() { call x = f() share 1/1 else 0; }", "def f() {}", "call")
        source = """
            def f(n) { if n > 0 { call x = g(n - 1) share 1/2 else 0; } }
            def g(n) { call x = f(n) share 1/1 else 0; }
        """
        self.check(source, "def f(n) {}", "call", (5,))

    def test_the_order_and_the_parameters_of_functions_stay(self):
        source = """
            def zz(b, a) { call r = bb(a, 1, 2) share 1/2 else 0; emit r; call r = aa() share 1/2 else 0; emit r; }
            def bb(n, q, p) { return p; }
            def cc() { emit 9; }
            def aa() { return 6; }
        """
        expected = re.sub(r"def cc\(\).*", "", source)
        self.check(source, expected, "function", (1, 2))


class Equivalence(Optimizer):
    def test_all_flaws_occur_in_sources_that_are_made_up(self):
        flaws = set()
        for source, _, _ in make_runs(range(3000, 3100)):
            flaws |= list_flaws(source)
        self.assertEqual(len(flaws), 10)

    def test_sources_that_are_made_up(self):
        for seed in range(3100, 3350):
            maker = Maker(seed)
            source = maker.make()
            self.check_equivalent(source, [(maker.make_arguments(), maker.make_cells()) for _ in range(3)])

    def test_large_sources(self):
        names = "abcdefghijkl"
        calls = {name: f"call x = {other}() share 1/9 else 0; set x = x; return x; set y = 1;"
                 for name, other in zip(names, names[1:])}
        source = " ".join([f"def {name}() {{ {calls.get(name, 'return 7;')} }}" for name in names])
        self.check_equivalent(source, [((), NO_CELLS)])
        self.check_equivalent("def f() { " + "loop 1 { " * 7 + "emit 1 + 2;" + " }" * 8, [((), NO_CELLS)])
        self.check_equivalent("def f() { " + "set x = x;" * 59 + "emit x; }", [((), NO_CELLS)])
        chain = "".join([f"set {chr(97 + place)} = {chr(98 + place)}; " for place in range(20)])
        self.assertEqual(optimize(f"def f() {{ {chain} set u = 5; emit 2; }}"), "def f() {\n  emit 2;\n}")

    def test_repeated_calls(self):
        for _ in range(3):
            self.assertEqual(optimize(EXAMPLE_OF_THE_INTERFACE), "def f(n) {\n  return n;\n}")

    def test_they_are_defined_in_their_file(self):
        for name in ("optimize", "savings"):
            self.assertEqual(getattr(optimizer, name).__module__, "fuelshare.optimizer")


class Savings(unittest.TestCase):
    def test_the_example_of_the_interface(self):
        self.assertEqual(savings(EXAMPLE_OF_THE_INTERFACE, (7,)), (3, 1))

    def test_nothing_is_saved(self):
        self.assertEqual(savings(EXAMPLE, (5,)), (5, 5))
        self.assertEqual(savings("def f() {}", ()), (0, 0))

    def test_shares_count(self):
        source = "def f() { call x = g() share 1/9 else 0; } def g() { emit 1; loop 1 { emit 2; } }"
        self.assertEqual(savings(source, ()), (37, 19))

    def test_given_cells(self):
        source = "def f() { loop A { emit 1; set x = 3; } }"
        self.assertEqual(savings(source, ()), (1, 1))
        self.assertEqual(savings(source, (), cells=(5,) + NO_CELLS[1:]), (16, 11))

    def test_a_full_run_that_only_the_source_does_not_have(self):
        source = "def f() { loop 999999 {} }"
        self.assertEqual(full_run(optimize(source), ()), (0, NO_CELLS, (), 0))
        with self.assertRaises(Endless):
            savings(source, ())

    def test_the_kinds_of_the_values(self):
        result = savings(EXAMPLE, (5,))
        self.assertEqual([type(result)] + [type(part) for part in result], [tuple, int, int])

    def test_savings_that_are_made_up(self):
        for source, arguments, cells in make_runs(range(3400, 3460)):
            if full_reference(source, arguments, cells) is not None:
                expected = (least_fuel(source, arguments, cells=cells),
                            least_fuel(optimize(source), arguments, cells=cells))
                self.assertEqual(savings(source, arguments, cells=cells), expected)


if __name__ == "__main__":
    unittest.main()
