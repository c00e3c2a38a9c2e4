"""Point 4: the canonical form of a source."""

import random
import unittest

from fuelshare.errors import CheckFault, SyntaxFault
from fuelshare.formatter import format_source
from tests.helper import EXAMPLE, lines_of

CANONICAL = """\
def main(a, b) {
  set x = 1 + y;
  put A = x * 2 - B;
  emit A;
  if x < 3 {
    loop x + 1 {
      if a = b {
      } else {
        emit 0;
      }
      call y = f(1, y * 2) share 1/2 else 0;
    }
    return 1;
  } else {
    if x > y + 1 {
    }
    loop 2 {
    }
  }
  call y = g() share 9/9 else a + b;
}
def f(a, b) {
}
def g() {
  return 999999;
}"""


def tokens_of(source):
    """Returns the tokens of a source in canonical form."""
    for sign in "(){}=;,/<>+-*":
        source = source.replace(sign, f" {sign} ")
    return source.split()


def join_tightly(tokens):
    """Returns the tokens with spaces only where two of them would become one."""
    source = ""
    for token in tokens:
        letters = source[-1:].islower() and token[0].islower()
        digits = source[-1:].isdigit() and token[0].isdigit()
        source += (" " if letters or digits else "") + token
    return source


class Formatter(unittest.TestCase):
    def check_body(self, statements, *lines):
        """The statements of a function must have these lines."""
        source = f"def f(a, b) {{{statements}}} def g() {{}}"
        expected = ["def f(a, b) {"] + list(lines) + ["}", "def g() {", "}"]
        self.assertEqual(lines_of(source), expected)

    def test_headers(self):
        self.assertEqual(format_source("def f(){}"), "def f() {\n}")
        self.assertEqual(format_source("def f(a){}"), "def f(a) {\n}")
        self.assertEqual(format_source("def f ( a,b ,c , d ) { }"), "def f(a, b, c, d) {\n}")

    def test_several_functions(self):
        self.assertEqual(format_source("def f(){}def g(a){}\n\ndef h(){emit 1;}"),
                         "def f() {\n}\ndef g(a) {\n}\ndef h() {\n  emit 1;\n}")

    def test_set(self):
        self.check_body("set x=1;", "  set x = 1;")
        self.check_body("set a=a+b*2-A;", "  set a = a + b * 2 - A;")

    def test_put(self):
        self.check_body("put A=1;", "  put A = 1;")
        self.check_body("put H=a-H;", "  put H = a - H;")

    def test_emit_and_return(self):
        self.check_body("emit 0;", "  emit 0;")
        self.check_body("return a*b;", "  return a * b;")
        self.check_body("emit 1;return 2;emit 3;", "  emit 1;", "  return 2;", "  emit 3;")

    def test_if(self):
        self.check_body("if a<3{emit 1;}", "  if a < 3 {", "    emit 1;", "  }")
        self.check_body("if a+1=b*2{emit 1;}", "  if a + 1 = b * 2 {", "    emit 1;", "  }")
        self.check_body("if A>B{emit 1;emit 2;}", "  if A > B {", "    emit 1;", "    emit 2;", "  }")

    def test_if_with_else(self):
        self.check_body("if a<3{emit 1;}else{emit 2;}",
                        "  if a < 3 {", "    emit 1;", "  } else {", "    emit 2;", "  }")

    def test_empty_blocks_of_if(self):
        self.check_body("if a<3{}", "  if a < 3 {", "  }")
        self.check_body("if a<3{}else{}", "  if a < 3 {", "  }")
        self.check_body("if a<3{emit 1;}else{}", "  if a < 3 {", "    emit 1;", "  }")
        self.check_body("if a<3{}else{emit 2;}", "  if a < 3 {", "  } else {", "    emit 2;", "  }")

    def test_loop(self):
        self.check_body("loop a+1{emit 1;}", "  loop a + 1 {", "    emit 1;", "  }")
        self.check_body("loop 3{}", "  loop 3 {", "  }")

    def test_call(self):
        self.check_body("call x=g()share 1/2 else 0;", "  call x = g() share 1/2 else 0;")
        self.check_body("call a=f(1,b*2)share9/9else a+b;", "  call a = f(1, b * 2) share 9/9 else a + b;")
        self.check_body("call x = f ( a\n, b ) share 1 / 1 else x ;", "  call x = f(a, b) share 1/1 else x;")

    def test_nested_blocks(self):
        self.check_body("if a<1{if a<2{loop 3{emit 1;}}else{emit 2;}}else{loop 4{}}emit 5;",
                        "  if a < 1 {", "    if a < 2 {", "      loop 3 {", "        emit 1;", "      }",
                        "    } else {", "      emit 2;", "    }", "  } else {", "    loop 4 {", "    }",
                        "  }", "  emit 5;")

    def test_eight_blocks(self):
        lines = ["def f() {"]
        lines += ["  " * depth + "loop 1 {" for depth in range(1, 8)]
        lines += ["  " * 8 + "emit 1;"]
        lines += ["  " * depth + "}" for depth in range(7, -1, -1)]
        self.assertEqual(lines_of(" ".join(lines)), lines)

    def test_a_canonical_source_is_its_own_canonical_form(self):
        self.assertEqual(format_source(CANONICAL), CANONICAL)
        self.assertEqual(format_source(format_source(EXAMPLE)), format_source(EXAMPLE))

    def test_spaces_and_line_feeds_change_nothing(self):
        tokens = tokens_of(CANONICAL)
        for gap in (" ", "\n", "  ", "\n\n", " \n ", "\n \n"):
            self.assertEqual(format_source(gap.join(tokens)), CANONICAL)
            self.assertEqual(format_source(gap + gap.join(tokens) + gap), CANONICAL)
        self.assertEqual(format_source(join_tightly(tokens)), CANONICAL)

    def test_random_spaces_and_line_feeds_change_nothing(self):
        chance = random.Random(3)
        tokens = tokens_of(CANONICAL)
        for _ in range(200):
            source = ""
            for token in tokens:
                gap = chance.choice(["", "", " ", "\n", "  \n", "\n   "])
                if gap == "" and source[-1:].isalnum() and token[0].isalnum():
                    gap = " "
                source += gap + token
            self.assertEqual(format_source(source), CANONICAL)

    def test_no_empty_lines_and_no_line_feed_at_the_end(self):
        for source in (CANONICAL, EXAMPLE, "def f() {}\n\n"):
            result = format_source("\n" + source + "\n\n")
            self.assertNotIn("", result.split("\n"))
            self.assertFalse(result.endswith("\n"))
            self.assertNotIn(" \n", result)

    def test_repeating_gives_the_same(self):
        self.assertEqual(format_source(EXAMPLE), format_source(EXAMPLE))

    def test_the_examples_of_the_interface(self):
        self.assertEqual(format_source("def f(a){return a+1;}"), "def f(a) {\n  return a + 1;\n}")
        with self.assertRaises(CheckFault) as caught:
            format_source("def f(a) { return b; }")
        self.assertEqual(vars(caught.exception), {"reason": "undefined", "line": 0, "column": 18})
        with self.assertRaises(SyntaxFault) as caught:
            format_source("def f(a) { return 07; }")
        self.assertEqual(vars(caught.exception), {"line": 0, "column": 18})

    def test_it_is_defined_in_its_file(self):
        self.assertEqual(format_source.__module__, "fuelshare.formatter")


if __name__ == "__main__":
    unittest.main()
