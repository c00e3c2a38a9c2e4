"""Point 4: the number of statements."""

import unittest

from fuelshare.compiler import count_statements
from fuelshare.errors import CheckFault, SyntaxFault
from tests.helper import EXAMPLE


class Compiler(unittest.TestCase):
    def check_body(self, statements, many):
        """The statements of a function must be so many."""
        self.assertEqual(count_statements(f"def f(a) {{ {statements} }}"), [("f", many)])

    def test_the_example_of_the_interface(self):
        self.assertEqual(count_statements(EXAMPLE), [("main", 3), ("half", 2)])

    def test_each_kind_of_statement(self):
        self.check_body("", 0)
        for statement in ("set x = 1;", "put A = 1;", "emit 1;", "return 1;", "if 1 < 2 {}",
                          "if 1 < 2 {} else {}", "loop 1 {}", "call x = f(1) share 1/1 else 0;"):
            self.check_body(statement, 1)
            self.check_body(statement * 3, 3)

    def test_nested_statements(self):
        self.check_body("loop 1 { emit 1; emit 2; }", 3)
        self.check_body("if 1 < 2 { emit 1; }", 2)
        self.check_body("if 1 < 2 { emit 1; } else { emit 2; emit 3; }", 4)
        self.check_body("if 1 < 2 {} else { emit 2; }", 2)
        self.check_body("loop 1 { loop 2 { if 1 < 2 { emit 1; } else { loop 3 {} } emit 4; } } emit 5;", 7)

    def test_several_functions_in_their_order(self):
        source = "def z() { emit 1; } def b() {} def a() { loop 1 { return 2; } } def m() { emit 1; }"
        self.assertEqual(count_statements(source), [("z", 1), ("b", 0), ("a", 2), ("m", 1)])

    def test_sources_at_the_limits(self):
        self.check_body("emit 1;" * 60, 60)
        self.check_body("loop 1 {" * 7 + "emit 1;" + "}" * 7, 8)
        names = "abcdefghijkl"
        source = " ".join([f"def {name}() {{ emit 1; }}" for name in names])
        self.assertEqual(count_statements(source), [(name, 1) for name in names])

    def test_the_kinds_of_the_values(self):
        result = count_statements(EXAMPLE)
        self.assertIs(type(result), list)
        for entry in result:
            self.assertIs(type(entry), tuple)
            self.assertEqual([type(part) for part in entry], [str, int])

    def test_the_list_may_be_modified(self):
        result = count_statements(EXAMPLE)
        result.append("more")
        result[0] = None
        self.assertEqual(count_statements(EXAMPLE), [("main", 3), ("half", 2)])
        self.assertIsNot(count_statements(EXAMPLE), count_statements(EXAMPLE))

    def test_faults(self):
        with self.assertRaises(SyntaxFault) as caught:
            count_statements("def f() {\n  emit 1;\n")
        self.assertEqual(vars(caught.exception), {"line": 3, "column": 0})
        with self.assertRaises(CheckFault) as caught:
            count_statements("def f() {\n  emit x;\n}")
        self.assertEqual(vars(caught.exception), {"reason": "undefined", "line": 1, "column": 7})

    def test_an_error_changes_nothing(self):
        with self.assertRaises(CheckFault):
            count_statements("def main() { emit x; }")
        self.assertEqual(count_statements(EXAMPLE), [("main", 3), ("half", 2)])

    def test_it_is_defined_in_its_file(self):
        self.assertEqual(count_statements.__module__, "fuelshare.compiler")


if __name__ == "__main__":
    unittest.main()
