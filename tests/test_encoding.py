"""Point 13: the bytes of sources, and that decoding them gives the canonical form."""

import unittest

from fuelshare.encoding import decode, encode
from fuelshare.formatter import format_source
from tests.helper import EXAMPLE, Faults, Reader, make_runs

KEYWORDS = ["set", "put", "emit", "return", "if", "loop", "call"]


def word_bytes(word):
    return [len(word)] + [ord(letter) - ord("a") for letter in word]


def term_bytes(term):
    if term.isdigit():
        return [0] + list(int(term).to_bytes(3, "big"))
    if term.isupper():
        return [" ABCDEFGH".index(term)]
    return [9] + word_bytes(term)


def expression_bytes(expression):
    found = [len(expression) // 2 + 1]
    for operator, term in zip(["+"] + expression[1::2], expression[::2]):
        found += ["+-*".index(operator)] + term_bytes(term)
    return found


def block_bytes(block):
    return sum([statement_bytes(statement) for statement in block], [len(block)])


def statement_bytes(statement):
    """Returns the bytes of a statement as the second reader gives it."""
    keyword, parts = statement[0], statement[1:]
    found = [KEYWORDS.index(keyword)]
    if keyword == "set":
        return found + word_bytes(parts[0]) + expression_bytes(parts[1])
    if keyword == "put":
        return found + ["ABCDEFGH".index(parts[0])] + expression_bytes(parts[1])
    if keyword == "if":
        left, comparison, right, first, second = parts
        found += expression_bytes(left) + ["<=>".index(comparison)] + expression_bytes(right)
        return found + block_bytes(first) + block_bytes(second)
    if keyword == "loop":
        return found + expression_bytes(parts[0]) + block_bytes(parts[1])
    if keyword == "call":
        target, name, arguments, part, whole, fallback = parts
        found += word_bytes(target) + word_bytes(name) + [len(arguments)]
        return found + sum([expression_bytes(e) for e in arguments], []) + [part, whole] + expression_bytes(fallback)
    return found + expression_bytes(parts[0])


def expected_bytes(source):
    """Returns the bytes of a source by its second reading."""
    functions = Reader(source).read_source()
    found = [70, len(functions)]
    for name, (parameters, block) in functions.items():
        found += word_bytes(name) + [len(parameters)]
        for parameter in parameters:
            found += word_bytes(parameter)
        found += block_bytes(block)
    return found + [sum(found) % 256]


def parts_of(body):
    """Returns the bytes of a body of a function `f` without parameters, behind the number of statements."""
    code = encode(f"def f() {{ {body} }}")
    assert code[:5] == [70, 1, 1, 5, 0] and code[5] == 1, code
    return code[6:-1]


class Bytes(unittest.TestCase):
    def test_the_example_of_the_interface(self):
        code = [70, 1, 4, 12, 0, 8, 13, 0, 1, 3, 1, 0, 0, 0, 0, 7, 120]
        self.assertEqual(encode("def main() { return 7; }"), code)

    def test_the_smallest_source(self):
        self.assertEqual(encode("def a() {}"), [70, 1, 1, 0, 0, 0, 72])

    def test_functions_and_parameters(self):
        found = encode("def f() {} def az(b, z, abcdefgh) {}")
        expected = [70, 2, 1, 5, 0, 0, 2, 0, 25, 3, 1, 1, 1, 25, 8, 0, 1, 2, 3, 4, 5, 6, 7, 0]
        self.assertEqual(found, expected + [sum(expected) % 256])

    def test_statements(self):
        self.assertEqual(parts_of("set x = 5;"), [0, 1, 23, 1, 0, 0, 0, 0, 5])
        self.assertEqual(parts_of("put A = 5;"), [1, 0, 1, 0, 0, 0, 0, 5])
        self.assertEqual(parts_of("put H = 5;"), [1, 7, 1, 0, 0, 0, 0, 5])
        self.assertEqual(parts_of("emit 5;"), [2, 1, 0, 0, 0, 0, 5])
        self.assertEqual(parts_of("return 5;"), [3, 1, 0, 0, 0, 0, 5])
        self.assertEqual(parts_of("loop 5 {}"), [5, 1, 0, 0, 0, 0, 5, 0])

    def test_comparisons_and_blocks(self):
        for place, comparison in enumerate("<=>"):
            head = [4, 1, 0, 1, place, 1, 0, 8]
            self.assertEqual(parts_of(f"if A {comparison} H {{}}"), head + [0, 0])
        head[4] = 0
        self.assertEqual(parts_of("if A < H {} else {}"), head + [0, 0])
        self.assertEqual(parts_of("if A < H { emit B; }"), head + [1, 2, 1, 0, 2, 0])
        self.assertEqual(parts_of("if A < H {} else { emit B; }"), head + [0, 1, 2, 1, 0, 2])
        self.assertEqual(parts_of("loop C { if A < H { emit B; } else { emit C; } }"),
                         [5, 1, 0, 3, 1] + head + [1, 2, 1, 0, 2, 1, 2, 1, 0, 3])

    def test_calls(self):
        found = encode("def f(a, b) { call x = f(A + 1, b) share 8/9 else a; }")
        call = [6, 1, 23, 1, 5, 2, 2, 0, 1, 0, 0, 0, 0, 1, 1, 0, 9, 1, 1, 8, 9, 1, 0, 9, 1, 0]
        expected = [70, 1, 1, 5, 2, 1, 0, 1, 1, 1] + call
        self.assertEqual(found, expected + [sum(expected) % 256])
        self.assertEqual(parts_of("call xy = f() share 1/1 else 0;"), [6, 2, 23, 24, 1, 5, 0, 1, 1, 1, 0, 0, 0, 0, 0])

    def test_operators(self):
        self.assertEqual(parts_of("emit A - B * C + D;"), [2, 4, 0, 1, 1, 2, 2, 3, 0, 4])

    def test_cells_in_expressions(self):
        for place, cell in enumerate("ABCDEFGH"):
            self.assertEqual(parts_of(f"emit {cell};"), [2, 1, 0, place + 1])

    def test_numbers(self):
        for number in (0, 1, 255, 256, 257, 65535, 65536, 65537, 131071, 999998, 999999):
            expected = [2, 1, 0, 0, number // 65536, number // 256 % 256, number % 256]
            self.assertEqual(parts_of(f"emit {number};"), expected)
        self.assertEqual(parts_of("emit 999999;"), [2, 1, 0, 0, 15, 66, 63])

    def test_many_terms(self):
        for many in (2, 255, 256, 257, 1000):
            found = parts_of("emit A" + " * B" * (many - 1) + ";")
            self.assertEqual(found, [2, many, 0, 1] + [2, 2] * (many - 1))
            source = "def f() { emit A" + " * B" * (many - 1) + "; }"
            self.assertEqual(encode(source)[-1], sum(encode(source)[:-1]) % 256)
            # Decoding accepts bytes alone, and numbers above 255 are none.
            if many < 256:
                self.assertEqual(decode(encode(source)), format_source(source))

    def test_the_form_of_the_source_does_not_matter(self):
        self.assertEqual(encode(format_source(EXAMPLE)), encode(EXAMPLE))
        self.assertEqual(encode("\n\ndef  f(\n){\nif 1<2{}else{} }"), encode("def f() { if 1 < 2 {} }"))

    def test_the_kinds_of_what_is_returned(self):
        code = encode(EXAMPLE)
        self.assertIs(type(code), list)
        self.assertEqual({type(byte) for byte in code}, {int})


class Whole(unittest.TestCase):
    def check(self, source):
        """The bytes must be those of the second reading, and decode into the canonical form."""
        code = encode(source)
        self.assertEqual(code, expected_bytes(source))
        self.assertEqual(decode(code), format_source(source))
        self.assertEqual(encode(decode(code)), code)

    def test_sources_at_the_limits(self):
        names = ["abcdefgh"[:length] for length in range(1, 9)] + ["z", "zz", "zzzzzzzz", "loops"]
        self.check(" ".join([f"def {name}(a, b, c, d) {{}}" for name in names]))
        self.check("def f() { " + "emit 1; " * 60 + "}")
        self.check("def f() { " + "loop 1 { " * 7 + "emit 1; " + "}" * 8)
        self.check("def f() { " + "if 1 < 2 {} else { " * 7 + "emit 1; " + "}" * 8)
        self.check("def f(a) { " + "call x = f(a) share 9/9 else 999999; " * 60 + "}")

    def test_all_shares(self):
        for whole in range(1, 10):
            for part in range(1, whole + 1):
                self.check(f"def f() {{ call x = f() share {part}/{whole} else 0; }}")

    def test_all_words(self):
        for letter in "abcdefghijklmnopqrstuvwxyz":
            self.check(f"def {letter * 8}({letter}) {{ set {letter * 2} = {letter}; emit {letter}{letter}; }}")

    def test_ordinary_sources(self):
        self.check(EXAMPLE)
        self.check("def f(n) { if n > 0 { loop n { put A = A + 1; } } else { return n; } emit n * 2; }")

    def test_sources_that_are_made_up(self):
        for source, _, _ in make_runs(range(300)):
            self.check(source)


class EncodingFaults(Faults):
    def test_sources(self):
        self.check_source(encode)


if __name__ == "__main__":
    unittest.main()
