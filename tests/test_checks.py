"""Point 3: names, numbers of things, and shares."""

import unittest

from tests.helper import EXAMPLE, fault_of, marked


def functions(many, last=""):
    """Returns a source of so many functions, the last one of the given text if there is one."""
    sources = [f"def {'abcdefghijklmnop'[at]}() {{}}" for at in range(many)]
    return "\n".join(sources[:-1] + [last or sources[-1]])


def nested(blocks, innermost):
    """Returns a source in which so many blocks, that of the function among them, enclose a text."""
    return "def f(n) {\n" + "loop 1 {\n" * (blocks - 1) + innermost + "\n}" * blocks


class Checks(unittest.TestCase):
    def check(self, reason, text):
        """The source must have a CheckFault with this reason at the mark @."""
        source, line, column = marked(text)
        self.assertEqual(fault_of(source), (reason, line, column), text)

    def check_fits(self, source):
        self.assertIsNone(fault_of(source), source)


class Headers(Checks):
    def test_twelve_functions(self):
        self.check_fits(functions(12))

    def test_a_thirteenth_function(self):
        self.check("functions", functions(13, "def @m() {}"))
        self.check("functions", functions(13, "def\n  @m() {}") + "\ndef n() {}")
        self.check("functions", functions(13, "def @m() {}") + functions(3))

    def test_a_thirteenth_function_with_a_name_that_exists(self):
        self.check("functions", functions(13, "def @a() {}"))

    def test_a_thirteenth_function_with_bad_parameters(self):
        self.check("functions", functions(13, "def @m(a, a, b, c, d, e) {}"))

    def test_a_repeated_name(self):
        self.check("duplicate", "def f() {} def @f() {}")
        self.check("duplicate", "def f() {} def g() {}\ndef h() {} def\n @f(a) {}")
        self.check("duplicate", "def f() {} def @f() {} def f() {}")
        self.check("duplicate", functions(12, "def @k() {}"))

    def test_four_parameters(self):
        self.check_fits("def f(a, b, c, d) {}")
        self.check_fits("def f(a, b, c, d) {} def g(d, c, b, a) {}")

    def test_a_fifth_parameter(self):
        self.check("parameters", "def f(a, b, c, d, @e) {}")
        self.check("parameters", "def f(a, b, c, d,\n @e, g, h) {}")
        self.check("parameters", "def f(a) {} def g(a, b, c, d, @e) {}")

    def test_a_fifth_parameter_that_repeats_one(self):
        self.check("parameters", "def f(a, b, c, d, @a) {}")

    def test_a_repeated_parameter(self):
        self.check("duplicate", "def f(a, @a) {}")
        self.check("duplicate", "def f(a, b, @a) {}")
        self.check("duplicate", "def f(a, b, @b, a) {}")
        self.check("duplicate", "def f(a, b, c, @a) {}")
        self.check("duplicate", "def f(a) {} def g(b,\n  @b) {}")

    def test_a_repeated_parameter_before_a_fifth_one(self):
        self.check("duplicate", "def f(a, @a, b, c, d) {}")
        self.check("duplicate", "def f(a, b, c, @a, e) {}")

    def test_parameters_may_have_the_names_of_functions_and_of_other_parameters(self):
        self.check_fits("def f(f) { emit f; } def g(f, g) { emit f + g; }")

    def test_two_errors_in_headers_in_both_orders(self):
        self.check("duplicate", "def f(a, @a) {} def f() {}")
        self.check("duplicate", "def f() {} def @f(a, a) {}")
        self.check("duplicate", "def f() {} def @f(a, b, c, d, e) {}")
        self.check("parameters", "def f(a, b, c, d, @e) {} def f() {}")
        self.check("parameters", "def f(a, b, c, d, @e) {} def g(a, a) {}")
        self.check("duplicate", "def f(a, @a) {} def g(a, b, c, d, e) {}")
        self.check("duplicate", "def a(x, @x) {}" + functions(13)[len("def a() {}"):])
        self.check("parameters", "def a(x, y, z, w, @v) {}" + functions(13)[len("def a() {}"):])
        self.check("duplicate", functions(12, "def @a() {}") + " def m() {}")

    def test_headers_come_before_statements(self):
        self.check("duplicate", "def f() { emit x; } def @f() {}")
        self.check("duplicate", "def f() { emit x; } def g(a, @a) {}")
        self.check("duplicate", "def f(a, @a) { emit x; }")
        self.check("parameters", "def f() { emit x; } def g(a, b, c, d, @e) {}")
        self.check("functions", "def a() { emit x; }" + functions(12, "def @m() {}").replace("a()", "z()", 1))
        self.check("duplicate", "def f() { call x = g(1) share 2/1 else y; } def @f() {}")
        self.check("duplicate", "def f() {" + "emit 1;" * 61 + "} def @f() {}")
        self.check("duplicate", nested(9, "emit 1;") + " def @f() {}")

    def test_statements_of_an_earlier_function_come_first(self):
        self.check("undefined", "def f() { emit @x; } def g() { emit y; }")
        self.check("undefined", "def f() { emit 1; } def g() { emit @y; }")


class Statements(Checks):
    def test_sixty_statements(self):
        self.check_fits("def f() {" + "emit 1;" * 60 + "}")
        self.check_fits("def f() {" + "emit 1;" * 30 + "} def g() {" + "loop 1 { emit 2; }" * 15 + "}")
        self.check_fits("def f(a) {" + "if a < 1 { emit 1; } else { emit 2; }" * 20 + "}")

    def test_a_sixty_first_statement(self):
        self.check("statements", "def f() {" + "emit 1;" * 60 + "@emit 1; }")
        self.check("statements", "def f() {" + "emit 1;" * 60 + "\n\n  @return 1; emit 1; }")
        for statement in ("set x = 1;", "put A = 1;", "emit 1;", "return 1;", "if 1 < 2 {}", "loop 1 {}",
                          "call x = f() share 1/1 else 0;"):
            self.check("statements", "def f() {" + "emit 1;" * 60 + " @" + statement + "}")

    def test_statements_of_all_functions_count(self):
        self.check("statements", "def f() {" + "emit 1;" * 59 + "}\ndef g() { emit 2; @emit 3; }")
        self.check("statements", "def f() {" + "emit 1;" * 60 + "}\ndef g() {} def h() { @emit 3; }")

    def test_nested_statements_count(self):
        self.check("statements", "def f() {" + "emit 1;" * 59 + "loop 1 { @emit 2; emit 3; } }")
        self.check("statements", "def f() { loop 1 {" + "emit 1;" * 59 + "} @emit 2; }")
        self.check("statements", "def f() {" + "emit 1;" * 58 + "if 1 < 2 { emit 1; } else { @emit 2; } emit 3; }")
        self.check("statements", "def f() {" + "emit 1;" * 58 + "if 1 < 2 {} else { emit 2; } @emit 3; }")

    def test_statements_come_before_the_other_errors_of_a_statement(self):
        self.check("statements", "def f() {" + "emit 1;" * 60 + "@emit x; }")
        self.check("statements", "def f() {" + "emit 1;" * 60 + "@call x = g(1) share 0/0 else y; }")
        self.check("statements", "def f() {" + "emit 1;" * 52 + "loop 1 {" * 8 + "@emit x;" + "}" * 9)

    def test_an_earlier_error_comes_before_statements(self):
        self.check("undefined", "def f() {" + "emit 1;" * 59 + "emit @x; emit 1; }")
        self.check("nesting", "def f() {" + "emit 1;" * 51 + "loop 1 {" * 8 + "@emit x; emit 1;" + "}" * 9)


class Nesting(Checks):
    def test_eight_blocks(self):
        self.check_fits(nested(8, "emit 1;"))
        self.check_fits(nested(8, "if n < 1 {} else {}"))
        self.check_fits(nested(8, "loop 1 {}"))

    def test_nine_blocks(self):
        for statement in ("set x = 1;", "put A = 1;", "emit 1;", "return 1;", "if 1 < 2 {}", "loop 1 {}",
                          "call x = f(1) share 1/1 else 0;"):
            self.check("nesting", nested(9, "  @" + statement))

    def test_blocks_of_if(self):
        head = "def f() { " + "if 1 < 2 { " * 7
        self.check_fits(head + "emit 1; " + "} " * 8)
        self.check("nesting", head + "if 1 < 2 { @emit 1; } " + "} " * 8)
        self.check("nesting", head + "if 1 < 2 {} else { @emit 1; } " + "} " * 8)
        otherwise = "def f() { " + "if 1 < 2 {} else { " * 7
        self.check_fits(otherwise + "emit 1; " + "} " * 8)
        self.check("nesting", otherwise + "loop 1 { @emit 1; } " + "} " * 8)

    def test_blocks_side_by_side(self):
        self.check_fits("def f() { " + "loop 1 { emit 1; } " * 20 + "}")
        self.check_fits("def f() { " + "if 1 < 2 { loop 1 {} } else { loop 2 {} } " * 12 + "}")

    def test_more_than_nine_blocks(self):
        self.check("nesting", "def f() {\n" + "loop 1 {\n" * 8 + "@loop 1 {\n" + "loop 1 {\n" * 10 + "}" * 20)

    def test_nesting_comes_before_the_other_errors_of_a_statement(self):
        self.check("nesting", nested(9, "@emit x;"))
        self.check("nesting", nested(9, "@call x = g(1) share 0/0 else y;"))

    def test_other_errors_that_stand_before(self):
        self.check("undefined", nested(8, "loop @x { emit 1; }"))
        self.check("undefined", nested(8, "emit @x; loop 1 { emit 1; }"))
        self.check("nesting", nested(8, "loop 1 { @emit 1; } emit x;"))


class Undefined(Checks):
    PLACES = [
        "set a = {};", "put A = {};", "emit {};", "return {};", "if {} < 1 {{}}", "if 1 = {} {{}}",
        "loop {} {{}}", "call a = g({}, 1) share 1/1 else 0;", "call a = g(1, {}) share 1/1 else 0;",
        "call a = g(1, 2) share 1/1 else {};",
    ]
    BLOCKS = ["{}", "loop 1 {{ {} }}", "if 1 < 2 {{ {} }}", "if 1 < 2 {{}} else {{ {} }}",
              "emit 1; {} emit 2;", "loop 1 {{\n if a < b {{}} else {{ {}\n }} }}"]

    def test_words_in_each_expression(self):
        for place in self.PLACES:
            for expression in ("@x", "@x + a", "a + @x", "1 * A - @x", "a +\n @x + y", "@x + x"):
                for block in self.BLOCKS:
                    statement = block.format(place.format(expression))
                    self.check("undefined", f"def f(a, b) {{ {statement} }} def g(c, d) {{ emit c; }}")

    def test_locals_in_each_expression(self):
        for place in self.PLACES:
            for expression in ("a", "b", "x", "y", "x + y * a - b", "A + 1 + x"):
                for block in self.BLOCKS:
                    statement = block.format(place.format(expression))
                    body = f"set x = 1; {statement} call y = g(1, 2) share 1/9 else 0;"
                    self.check_fits(f"def f(a, b) {{ {body} }} def g(c, d) {{ emit c; }}")

    def test_locals_may_be_assigned_anywhere_in_the_function(self):
        self.check_fits("def f() { emit x; set x = 1; }")
        self.check_fits("def f() { set x = x; }")
        self.check_fits("def f() { emit x; loop 0 { if 1 < 2 {} else { set x = 1; } } }")
        self.check_fits("def f() { emit x; loop 0 { if 1 < 2 { call x = f() share 1/2 else x; } } }")
        self.check_fits("def f() { return 1; set x = 1; emit x; }")

    def test_put_assigns_no_local(self):
        self.check("undefined", "def f() { put A = 1; emit @a; }")

    def test_locals_of_other_functions(self):
        self.check("undefined", "def f(a) { set b = 1; } def g() { emit @a; }")
        self.check("undefined", "def f(a) { set b = 1; } def g() { emit @b; }")
        self.check("undefined", "def f() { emit @c; } def g(c) {}")

    def test_names_of_functions_are_no_locals(self):
        self.check("undefined", "def f() { emit @f; }")
        self.check("undefined", "def f(a) { call a = @a(1) share 1/1 else 0; }")

    def test_functions_that_do_not_exist(self):
        self.check("undefined", "def f() { call x = @g() share 1/1 else 0; }")
        self.check("undefined", "def f() {\n  call x =\n @ff(1, 2) share 1/1 else 0; }")
        self.check("undefined", "def f() { loop 1 { call x = f() share 1/1 else 0; call y = @g() share 1/1 else 0; } }")

    def test_functions_may_stand_anywhere(self):
        self.check_fits("def f() { call x = f() share 1/1 else 0; }")
        self.check_fits("def f() { call x = g() share 1/1 else 0; } def g() { call x = f() share 1/1 else 0; }")

    def test_the_example_of_the_interface(self):
        self.check("undefined", "def f(a) { return @b; }")
        self.assertEqual(fault_of("def f(a) { return b; }"), ("undefined", 0, 18))


class Calls(Checks):
    def test_the_number_of_arguments(self):
        names = ["a", "b", "c", "d"]
        for many in range(5):
            for given in range(7):
                arguments = ", ".join(["1"] * given)
                text = f"def f() {{ call x = @g({arguments}) share 1/1 else 0; }} def g({', '.join(names[:many])}) {{}}"
                if many == given:
                    self.check_fits(text.replace("@", ""))
                else:
                    self.check("arguments", text)

    def test_the_number_of_arguments_of_the_function_itself(self):
        self.check("arguments", "def f(a) { loop 1 {\n call x = @f() share 1/1 else 0; } }")
        self.check_fits("def f(a) { loop 1 {\n call x = f(a + 1) share 1/1 else 0; } }")

    def test_shares(self):
        for part in range(13):
            for whole in range(13):
                text = f"def f() {{ call x = f() share @{part}/{whole} else 0; }}"
                if 1 <= part <= whole <= 9:
                    self.check_fits(text.replace("@", ""))
                else:
                    self.check("share", text)

    def test_large_shares(self):
        for share in ("1/10", "9/10", "10/10", "999999/999999", "1/999999", "999999/1", "100000/9"):
            self.check("share", f"def f() {{\n  call x = f() share\n  @{share} else 0; }}")

    def test_two_errors_of_a_call(self):
        self.check("undefined", "def f() { call x = @g(y) share 2/1 else z; }")
        self.check("undefined", "def f() { call x = @g(1) share 2/1 else 0; }")
        self.check("arguments", "def f() { call x = @f(y) share 1/1 else 0; }")
        self.check("arguments", "def f() { call x = @f(1) share 2/1 else 0; }")
        self.check("arguments", "def f() { call x = @f(1) share 1/1 else y; }")
        self.check("share", "def f(a) { call x = f(y) share @2/1 else 0; }")
        self.check("share", "def f(a) { call x = f(1) share @0/1 else y; }")
        self.check("undefined", "def f(a) { call x = f(@y) share 1/1 else z; }")
        self.check("undefined", "def f(a, b) { call x = f(1, @y) share 1/1 else z; }")

    def test_errors_of_two_statements_in_both_orders(self):
        errors = [
            ("undefined", "emit {}x;"),
            ("undefined", "call y = {}h() share 1/1 else 0;"),
            ("arguments", "call y = {}g(1, 2) share 1/1 else 0;"),
            ("share", "call y = g(1) share {}3/2 else 0;"),
            ("undefined", "loop {}x {{ emit 1; }}"),
            ("undefined", "loop 1 {{ emit {}x; }}"),
            ("undefined", "if 1 < {}x {{ emit z; }} else {{ emit z; }}"),
            ("undefined", "if 1 < 2 {{ emit {}x; }} else {{ emit z; }}"),
            ("undefined", "if 1 < 2 {{}} else {{ emit {}x; }}"),
        ]
        for reason, first in errors:
            for _, second in errors:
                body = first.format("@") + " " + second.format("")
                self.check(reason, f"def f() {{ {body} }} def g(a) {{}}")
                self.check(reason, f"def f() {{ {first.format('@')} }} def g(a) {{ {second.format('')} }}")

    def test_blocks_come_after_their_statement(self):
        self.check("undefined", "def f() { if @x < y { emit z; } else { emit w; } }")
        self.check("undefined", "def f() { if 1 < @y { emit z; } else { emit w; } }")
        self.check("undefined", "def f() { if 1 < 2 { emit @z; } else { emit w; } emit v; }")
        self.check("undefined", "def f() { if 1 < 2 { emit 1; } else { emit @w; } emit v; }")
        self.check("undefined", "def f() { loop @x { emit y; } }")

    def test_the_example(self):
        self.check_fits(EXAMPLE)


if __name__ == "__main__":
    unittest.main()
