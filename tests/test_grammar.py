"""Point 2: the grammar of a source."""

import random
import unittest

from fuelshare.formatter import format_source
from tests.helper import EXAMPLE, SAMPLES, expected_fault, fault_of, first_misfit, kind_of, marked

# Every rule of the grammar with each of its choices.
FULL = """
def f ( a , b , c ) { set a = 1 + b * A ; put B = a - 2 ; emit C ; return 3 ;
if a < b { emit 1 ; } else { emit 2 ; } if a = 1 + c { } if A > 1 { } else { }
loop a + 1 { loop 2 { } emit a ; } call b = g ( ) share 1 / 2 else 0 ;
call c = h ( 1 , a * 2 ) share 3 / 9 else a + B ; } def g ( ) { } def h ( a , b ) { return a ; }
""".split()


class Grammar(unittest.TestCase):
    def check(self, text):
        """The source must have a SyntaxFault at the mark @."""
        source, line, column = marked(text)
        self.assertEqual(fault_of(source), ("syntax", line, column), text)
        self.assertEqual(expected_fault(source), (line, column), text)

    def check_end(self, source):
        """The source must end too early."""
        self.assertEqual(fault_of(source), ("syntax", source.count("\n") + 1, 0), source)

    def check_tokens(self, tokens, gap):
        """The fault must be where the second reading of the grammar finds it."""
        source = gap.join(tokens)
        misfit = first_misfit([kind_of(token) for token in tokens])
        expected = None
        if misfit == len(tokens):
            expected = (source.count("\n") + 1, 0)
        elif misfit is not None:
            start = len(gap.join(tokens[:misfit] + [""]))
            expected = (misfit, 0) if gap == "\n" else (0, start)
        fault = fault_by_syntax(source)
        self.assertEqual(fault, expected, source)

    def test_sources_that_fit(self):
        for source in (EXAMPLE, " ".join(FULL), "def f(){}", "\n def f ( ) \n { } \n", "def f(){}def g(){}"):
            with self.subTest(source):
                self.assertIsNone(fault_of(source))

    def test_sources_that_fit_but_are_faulty_otherwise(self):
        for source in ("def f() { emit x; }", "def f(a, a) {}", "def f() {} def f() {}",
                       "def f() { call x = g() share 1/2 else 0; }",
                       "def f() { call x = f() share 999999/0 else 0; }"):
            with self.subTest(source):
                self.assertNotIn(fault_of(source)[0], ("syntax",))

    def test_tokens_removed(self):
        for at in range(len(FULL)):
            for gap in (" ", "\n"):
                self.check_tokens(FULL[:at] + FULL[at + 1:], gap)

    def test_tokens_inserted(self):
        for at in range(len(FULL) + 1):
            for place, text in enumerate(SAMPLES.values()):
                self.check_tokens(FULL[:at] + [text] + FULL[at:], " \n"[(at + place) % 2])

    def test_tokens_replaced(self):
        for at in range(len(FULL)):
            for place, text in enumerate(SAMPLES.values()):
                self.check_tokens(FULL[:at] + [text] + FULL[at + 1:], " \n"[(at + place) % 2])

    def test_tokens_exchanged(self):
        for at in range(len(FULL) - 1):
            self.check_tokens(FULL[:at] + [FULL[at + 1], FULL[at]] + FULL[at + 2:], " ")

    def test_sources_that_are_cut_off(self):
        whole = 0
        for at in range(len(FULL)):
            for gap in (" ", "\n"):
                self.check_tokens(FULL[:at], gap)
            source = " ".join(FULL[:at])
            if fault_by_syntax(source) is None:
                whole += 1
            else:
                self.check_end(source)
                self.check_end(source + " ")
                self.check_end(source + "\n")
                self.check_end("\n\n" + source + "\n \n")
        self.assertEqual(whole, 2)

    def test_sources_that_are_cut_off_within_a_token(self):
        source = " ".join(FULL)
        for at in range(len(source)):
            self.assertEqual(fault_by_syntax(source[:at]), expected_fault(source[:at]), source[:at])

    def test_empty_sources(self):
        self.assertEqual(fault_of(""), ("syntax", 1, 0))
        self.assertEqual(fault_of("   "), ("syntax", 1, 0))
        self.assertEqual(fault_of("\n"), ("syntax", 2, 0))
        self.assertEqual(fault_of("\n\n  \n"), ("syntax", 4, 0))

    def test_early_ends(self):
        self.check_end("def")
        self.check_end("def f")
        self.check_end("def f(")
        self.check_end("def f(a")
        self.check_end("def f(a,\n")
        self.check_end("def f(a)\n\n")
        self.check_end("def f() {")
        self.check_end("def f() {\n  if 1 < 2 {\n  }\n")
        self.check_end("def f() {\n  if 1 < 2 {\n  } else\n")
        self.check_end("def f() {\n  if 1 < 2 {\n  } else {\n  }\n")
        self.check_end("def f() {} def\n")

    def test_functions(self):
        self.check("@f() {}")
        self.check("@emit 1;")
        self.check("def @(a) {}")
        self.check("def @A() {}")
        self.check("def @1() {}")
        self.check("def f @{}")
        self.check("def f(@,) {}")
        self.check("def f(a @b) {}")
        self.check("def f(a,@) {}")
        self.check("def f(@A) {}")
        self.check("def f(@1) {}")
        self.check("def f(a, @1) {}")
        self.check("def f(a @+ b) {}")
        self.check("def f() @emit 1;")
        self.check("def f() {} @;")
        self.check("def f() {} @}")
        self.check("def f() {} @emit 1;")
        self.check("def f() { @def g() {} }")

    def test_blocks(self):
        self.check("def f() { @; }")
        self.check("def f() { @{ } }")
        self.check("def f() { emit 1; @; }")
        self.check("def f() { @x = 1; }")
        self.check("def f() { @A = 1; }")
        self.check("def f() { @else { } }")
        self.check("def f() { @share 1/2; }")
        self.check("def f() { emit 1; @) }")

    def test_set_and_put(self):
        self.check("def f() { set @A = 1; }")
        self.check("def f() { put @x = 1; }")
        self.check("def f() { set @1 = 1; }")
        self.check("def f() { set @= 1; }")
        self.check("def f() { set x @1; }")
        self.check("def f() { set x @< 1; }")
        self.check("def f() { set x = @; }")
        self.check("def f() { set x = 1 @}")
        self.check("def f() { put A = 1@, }")

    def test_emit_and_return(self):
        self.check("def f() { emit @; }")
        self.check("def f() { return @; }")
        self.check("def f() { return @}")
        self.check("def f() { emit @= 1; }")
        self.check("def f() { emit 1 @emit 2; }")

    def test_if_and_loop(self):
        self.check("def f() { if @{} }")
        self.check("def f() { if 1 @{} }")
        self.check("def f() { if 1 > @= 2 {} }")
        self.check("def f() { if 1 < @{} }")
        self.check("def f() { if 1 < 2 @emit 1; }")
        self.check("def f() { if 1 < 2 @< 3 {} }")
        self.check("def f() { if 1 < 2 @; }")
        self.check("def f() { if 1 < 2 {} else @if 1 < 2 {} }")
        self.check("def f() { if 1 < 2 {} else {} @else {} }")
        self.check("def f() { if 1 < 2 {} @; }")
        self.check("def f() { if 1 < 2 { @else } }")
        self.check("def f() { if 1 < 2 {} emit 1; @else {} }")
        self.check("def f() { loop @{} }")
        self.check("def f() { loop 3@; }")
        self.check("def f() { loop 3 @< 4 {} }")
        self.check("def f() { loop 3 {} @else {} }")
        self.check("def f() { if 1 < 2 { loop 3 {} @else {} } }")
        self.check("def f() { loop 3 { if 1 < 2 {} } @else {} }")

    def test_an_else_belongs_to_the_if_before_it(self):
        source = "def f() { if 1 < 2 { if 3 < 4 {} else { emit 1; } } else { emit 2; } }"
        self.assertIsNone(fault_of(source))
        self.check("def f() { if 1 < 2 { if 3 < 4 {} else {} @else {} } }")
        self.check("def f() { if 1 < 2 { if 3 < 4 {} else {} } else {} @else {} }")

    def test_calls(self):
        self.check("def f() { call @A = f() share 1/2 else 0; }")
        self.check("def f() { call x @f() share 1/2 else 0; }")
        self.check("def f() { call x = @A() share 1/2 else 0; }")
        self.check("def f() { call x = @1 share 1/2 else 0; }")
        self.check("def f() { call x = f @share 1/2 else 0; }")
        self.check("def f() { call x = f(@, 1) share 1/2 else 0; }")
        self.check("def f() { call x = f(1,@) share 1/2 else 0; }")
        self.check("def f() { call x = f(1 @2) share 1/2 else 0; }")
        self.check("def f() { call x = f() @1/2 else 0; }")
        self.check("def f() { call x = f() share @x/2 else 0; }")
        self.check("def f() { call x = f() share @A/2 else 0; }")
        self.check("def f() { call x = f() share @/2 else 0; }")
        self.check("def f() { call x = f() share 1 @2 else 0; }")
        self.check("def f() { call x = f() share 1/@x else 0; }")
        self.check("def f() { call x = f() share 1/2@; }")
        self.check("def f() { call x = f() share 1/2 @+ 1 else 0; }")
        self.check("def f() { call x = f() share 1/2 else @; }")
        self.check("def f() { call x = f() share 1/2 else 0 @}")
        self.check("def f() { call x = f() share 1/2 else @{ } }")
        self.check("def f() { set x = f@() share 1/2 else 0; }")

    def test_expressions(self):
        self.check("def f() { emit @+ 1; }")
        self.check("def f() { emit @- 1; }")
        self.check("def f() { emit 1 +@; }")
        self.check("def f() { emit 1 + @+ 1; }")
        self.check("def f() { emit 1 @/ 2; }")
        self.check("def f() { emit @(1); }")
        self.check("def f() { emit 1 * @(2); }")
        self.check("def f() { emit 1 @< 2; }")
        self.check("def f() { emit 1@, 2; }")

    def test_the_grammar_comes_before_the_checks(self):
        self.check("def f(a, a) { emit x; }@}")
        self.check_end("def f(a, a) { emit x; ")

    def test_deep_blocks_are_read_to_their_end(self):
        deep = "def f() { " + "loop 1 { " * 3000
        self.check_end(deep)
        self.assertEqual(fault_of(deep + "}" * 3001)[0], "nesting")
        self.assertEqual(fault_of(deep + "}" * 3002)[:2], ("syntax", 0))

    def test_long_expressions(self):
        source = "def f(a) {\n  emit " + " + ".join(["a"] * 5000) + ";\n}"
        self.assertEqual(format_source(source), source)

    def test_random_changes(self):
        chance = random.Random(7)
        texts = list(SAMPLES.values())
        for _ in range(2000):
            tokens = list(FULL)
            for _ in range(chance.randint(1, 3)):
                at = chance.randrange(len(tokens))
                tokens[at:at + chance.randint(0, 2)] = [chance.choice(texts)] * chance.randint(0, 2)
            self.check_tokens(tokens, chance.choice(" \n"))


def fault_by_syntax(source):
    """Returns the line and the column of the SyntaxFault of a source, or None."""
    fault = fault_of(source)
    return fault[1:] if fault and fault[0] == "syntax" else None


if __name__ == "__main__":
    unittest.main()
