"""Point 2: the tokens of a source."""

import random
import unittest

from fuelshare.formatter import format_source
from tests.helper import KEYWORDS, SIGNS, expected_fault, fault_of, marked


class Tokens(unittest.TestCase):
    def check(self, text):
        """The source must have a SyntaxFault at the mark @."""
        source, line, column = marked(text)
        self.assertEqual(fault_of(source), ("syntax", line, column), text)

    def check_fits(self, source):
        self.assertIsNone(fault_of(source), source)

    def test_characters_that_start_no_token(self):
        allowed = "abcdefghijklmnopqrstuvwxyz0123456789ABCDEFGH(){}=;,/<>+-* \n"
        others = [chr(code) for code in range(32, 127) if chr(code) not in allowed and chr(code) != "%"]
        self.assertEqual(len(others), 94 - 26 - 10 - 8 - 13 - 1)
        for character in others:
            for place in ("X", "Xdef f() {}", "def f() {}X", "def f() { emit 1X; }", "def\n\n fX() {}"):
                with self.subTest(character=character, place=place):
                    before = place[:place.index("X")]
                    line = before.count("\n")
                    column = len(before) - (before.rfind("\n") + 1)
                    self.assertEqual(fault_of(place.replace("X", character)), ("syntax", line, column))

    def test_an_at_sign_starts_no_token(self):
        self.assertEqual(fault_of("def f() { emit @; }"), ("syntax", 0, 15))

    def test_letters_behind_the_last_cell(self):
        self.check("def f() { emit @I; }")
        self.check("def f() { emit A@Z; }")
        self.check("def @I() {}")
        self.check("def @_f() {}")
        self.check_fits("def f() { emit A + B + C + D + E + F + G + H; }")

    def test_words_of_one_to_eight_letters(self):
        for length in range(1, 9):
            word = "abcdefghijkl"[:length]
            self.check_fits(f"def {word}({word}) {{ set {word} = {word}; }}")

    def test_words_that_are_too_long(self):
        self.check("def @abcdefghi() {}")
        self.check("def f(@abcdefghi) {}")
        self.check("def f(a, @" + "z" * 100 + ") {}")
        self.check("def f() {\n  @defreturn 1;\n}")
        self.check("def f() { @sharecall x; }")
        self.check("def f() { emit 1@abcdefghi; }")

    def test_keywords_grow_into_words(self):
        self.check("@deff() {}")
        self.check("def f() { @emits 1; }")
        self.check_fits("def defs(sets, iff, elses) { return iff; }")

    def test_keywords_are_no_words(self):
        for word in KEYWORDS:
            with self.subTest(word):
                self.check(f"def @{word}() {{}}")
                self.check(f"def f(@{word}) {{}}")
                self.check(f"def f() {{ set @{word} = 1; }}")
                self.check(f"def f() {{ emit @{word}; }}")
                self.check(f"def f() {{ call @{word} = f() share 1/1 else 0; }}")
                self.check(f"def f() {{ call x = @{word}() share 1/1 else 0; }}")

    def test_numbers(self):
        for number in ("0", "1", "9", "10", "100", "99999", "100000", "999999"):
            self.check_fits(f"def f() {{ emit {number}; }}")

    def test_numbers_with_leading_zeros(self):
        for number in ("00", "01", "07", "000000", "0000000", "012345", "0999999"):
            self.check(f"def f() {{ emit @{number}; }}")
            self.check(f"def f() {{ emit 1 +\n @{number}; }}")
            self.check(f"def f() {{ call x = f() share @{number}/1 else 0; }}")

    def test_numbers_that_are_too_long(self):
        for number in ("1000000", "1234567", "9999999999", "1" * 50):
            self.check(f"def f() {{ emit @{number}; }}")
            self.check(f"def f() {{ call x = f() share 1/@{number} else 0; }}")

    def test_tokens_without_a_gap(self):
        self.check_fits("def f(a){set a=1+a*A-2;put B=a;emit C;return 0;}def g(){}")
        self.check_fits("def f(x){if x<3{}else{loop x{}}call x=f(1)share1/2else0;}")
        self.check("def f() { emit 1@x; }")
        self.check("def f() { emit x@1; }")
        self.check("def f() { emit A@x; }")
        self.check("def f() { emit A@B; }")
        self.check("def f() { emit 1@A; }")
        self.check("def f() { emit A@1; }")
        self.check("def f() { emit 0@x; }")
        self.check("def f@1() {}")
        self.check("def f@A() {}")
        self.check("def f() { set x =@= 1; }")
        self.check("def f() { if 1 <@= 2 {} }")

    def test_two_tokens_that_would_be_one(self):
        self.check_fits("def f() { emit 1; }")
        self.check("def f() { emit 1 @2; }")
        self.check("def f() { emit 0 @0; }")
        self.check("def f(a, b) { emit a @b; }")
        self.check("def f() { emit 1\n@2; }")

    def test_spaces_and_line_feeds(self):
        for gap in (" ", "\n", "  ", "\n\n", " \n ", "\n \n"):
            with self.subTest(gap):
                self.check_fits(gap + gap.join("def f ( a ) { emit a + 1 ; }".split()) + gap)

    def test_lines_and_columns(self):
        self.check("\n@;")
        self.check("\n\n   @;")
        self.check("def f() {\n  emit 1;\n  }@}")
        self.check("def\nf\n(\n)\n{\n@)\n}")

    def test_an_invalid_token_comes_before_one_that_does_not_fit(self):
        self.check("} def f() {} @!")
        self.check("} } }\n\n @01")
        self.check("def def def @abcdefghi")
        self.check("def f() { emit ; } @1000000 !")

    def test_the_first_of_several_invalid_tokens(self):
        self.check("def f() { emit @01 + ! + abcdefghi; }")
        self.check("def f() { emit 1 + @! + 01 + abcdefghi; }")
        self.check("def f() { emit 1 +\n@abcdefghi +\n01; }")

    def test_an_invalid_token_comes_before_an_early_end(self):
        self.check("@abcdefghi")
        self.check("def f( @00")
        self.check("def f() { @_")

    def test_each_sign_and_keyword_is_a_token(self):
        for text in KEYWORDS + SIGNS:
            if text != "def":
                self.check(f"@{text}")
                self.check(f"def f() {{}} @{text}")

    def test_random_characters(self):
        pieces = list("ab1207AH(){}=;,/<>+-* \n") + ["I", "_", "abcdefgh", "abcdefghi", "123456", "1234567"]
        pieces += [word + " " for word in KEYWORDS] + ["def f() {", "emit 1;", "}"]
        chance = random.Random(5)
        for _ in range(4000):
            source = "".join(chance.choice(pieces) for _ in range(chance.randint(0, 12)))
            with self.subTest(source):
                fault = fault_of(source)
                found = fault[1:] if fault and fault[0] == "syntax" else None
                self.assertEqual(found, expected_fault(source))

    def test_the_example_of_the_interface(self):
        self.check("def f(a) { return @07; }")
        self.assertEqual(fault_of("def f(a) { return 07; }"), ("syntax", 0, 18))

    def test_numbers_and_words_stay_as_they_are(self):
        self.assertEqual(format_source("def f(){emit 0;}"), "def f() {\n  emit 0;\n}")
        self.assertEqual(format_source("def f(){emit 999999;}"), "def f() {\n  emit 999999;\n}")


if __name__ == "__main__":
    unittest.main()
