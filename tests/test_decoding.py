"""Point 14: codes that are no encodings, and the faults of sources that codes tell."""

import unittest

from fuelshare.encoding import decode, encode
from fuelshare.errors import CheckFault, InvalidCode
from fuelshare.formatter import format_source
from tests.helper import EXAMPLE, KEYWORDS, Faults, fault_by, make_runs

SOURCES = [
    "def main() { return 7; }",
    EXAMPLE,
    "def f(a) { set x = a - 70000; if x < A { loop 3 {} } else { put H = x * x; } }",
    "def go(of) { call of = go(of + 1) share 2/3 else D; } def c() {}",
]
NO_BYTES = [-1, 256, 10 ** 30, True, False, None, "7", "", (), (7,), [7], []]
NO_LISTS = [None, True, False, 0, 70, "", "F", (), (70, 1, 1, 0, 0, 0, 72)]


class Wrong(Exception):
    """The byte at an offset is missing, superfluous or invalid."""


class Second:
    """A second decoder, by recursion; it writes the canonical form while it reads."""

    def __init__(self, code):
        self.code = code
        self.at = 0

    def read(self, accepted):
        """Returns the next byte, which must be in a range."""
        if self.at >= len(self.code):
            raise Wrong(self.at)
        byte = self.code[self.at]
        if type(byte) is not int or byte not in accepted:
            raise Wrong(self.at)
        self.at += 1
        return byte

    def source(self):
        self.read(range(70, 71))
        lines = []
        for _ in range(self.read(range(1, 256))):
            name = self.word()
            words = [self.word() for _ in range(self.read(range(256)))]
            lines += [f"def {name}({', '.join(words)}) {{"] + self.block("  ") + ["}"]
        right = sum(self.code[:self.at]) % 256
        self.read(range(right, right + 1))
        if self.at < len(self.code):
            raise Wrong(self.at)
        return "\n".join(lines)

    def word(self):
        start = self.at
        word = "".join([chr(97 + self.read(range(26))) for _ in range(self.read(range(1, 9)))])
        if word in KEYWORDS:
            raise Wrong(start)
        return word

    def block(self, indent):
        return [line for _ in range(self.read(range(61))) for line in self.statement(indent)]

    def statement(self, indent):
        code = self.read(range(7))
        if code == 0:
            return [f"{indent}set {self.word()} = {self.expression()};"]
        if code == 1:
            return [f"{indent}put {'ABCDEFGH'[self.read(range(8))]} = {self.expression()};"]
        if code in (2, 3):
            return [f"{indent}{'emit' if code == 2 else 'return'} {self.expression()};"]
        if code == 4:
            head = f"{indent}if {self.expression()} {'<=>'[self.read(range(3))]} {self.expression()} {{"
            first, second = self.block(indent + "  "), self.block(indent + "  ")
            return [head] + first + ([indent + "} else {"] if second else []) + second + [indent + "}"]
        if code == 5:
            return [f"{indent}loop {self.expression()} {{"] + self.block(indent + "  ") + [indent + "}"]
        head = f"{indent}call {self.word()} = {self.word()}("
        head += ", ".join([self.expression() for _ in range(self.read(range(256)))])
        return [f"{head}) share {self.read(range(256))}/{self.read(range(256))} else {self.expression()};"]

    def expression(self):
        many = self.read(range(1, 256))
        self.read(range(1))
        text = self.term()
        for _ in range(many - 1):
            text += f" {'+-*'[self.read(range(3))]} {self.term()}"
        return text

    def term(self):
        code = self.read(range(10))
        if code == 9:
            return self.word()
        if code > 0:
            return " ABCDEFGH"[code]
        start = self.at
        value = int.from_bytes([self.read(range(256)) for _ in range(3)], "big")
        if value > 999999:
            raise Wrong(start)
        return str(value)


def expected_result(code):
    """Returns what decoding must return or raise, by the second decoder."""
    try:
        source = Second(code).source()
    except Wrong as wrong:
        return ("code", wrong.args[0])
    return fault_by(format_source, source) or source


def result_of(code):
    """Returns what decoding returns or raises."""
    try:
        return decode(code)
    except InvalidCode as error:
        return ("code", error.offset)
    except CheckFault as fault:
        return (fault.reason, fault.line, fault.column)


def whole(code):
    """Returns bytes with the right checksum behind them."""
    return code + [sum(code) % 256]


def function(*body):
    """Returns a code of a function `f` without parameters, with these bytes behind its name and parameters."""
    return whole([70, 1, 1, 5, 0] + list(body))


class Codes(Faults):
    def refuse(self, code, offset):
        """A code must be refused at this offset, also by the second decoder, and not be modified."""
        before = list(code)
        self.assertEqual(self.check(InvalidCode, decode, code), {"offset": offset}, code)
        self.assertEqual(code, before)
        self.assertEqual(expected_result(code), ("code", offset))


class Invalid(Codes):
    def test_the_examples_of_the_interface(self):
        code = [70, 1, 4, 12, 0, 8, 13, 0, 1, 3, 1, 0, 0, 0, 0, 7, 120]
        self.assertEqual(decode(code), "def main() {\n  return 7;\n}")
        self.refuse([70, 0], 1)

    def test_no_lists(self):
        for code in NO_LISTS:
            self.assertEqual(self.check(InvalidCode, decode, code), {"offset": 0})

    def test_the_first_byte(self):
        self.refuse([], 0)
        for byte in [0, 69, 71, 255] + NO_BYTES:
            self.refuse([byte], 0)
            self.refuse([byte] + encode(EXAMPLE)[1:], 0)

    def test_numbers_of_functions(self):
        self.refuse([70], 1)
        for byte in [0] + NO_BYTES:
            self.refuse([70, byte, 1, 0, 0, 0, 0], 1)
        self.refuse([70, 2] + [1, 0, 0, 0] + [74], 6)
        self.refuse([70, 255] + [1, 0, 0, 0] * 254, 2 + 4 * 254)

    def test_words(self):
        for length in (0, 9, 255):
            self.refuse([70, 1, length] + [0] * 20, 2)
            self.refuse([70, 1, 1, 5, 1, length] + [0] * 20, 5)
        for byte in [26, 255] + NO_BYTES:
            self.refuse([70, 1, 1, byte, 0, 0, 0], 3)
            self.refuse([70, 1, 3, 0, 0, byte], 5)

    def test_keywords(self):
        for keyword in KEYWORDS:
            word = [len(keyword)] + [ord(letter) - 97 for letter in keyword]
            self.refuse(whole([70, 1] + word + [0, 0]), 2)
            self.refuse(whole([70, 1, 1, 5, 1] + word + [0]), 5)
            self.refuse(function(1, 0, *word, 1, 0, 1), 7)
            self.refuse(function(1, 6, 1, 0, *word, 0, 1, 1, 1, 0, 1), 9)
            self.refuse(function(1, 2, 1, 0, 9, *word), 10)
            # Only a whole word is a keyword.
            longer = [len(keyword) + 1] + word[1:] + [25]
            self.assertEqual(decode(whole([70, 1] + longer + [0, 0])), f"def {keyword}z() {{\n}}")

    def test_keywords_are_noticed_behind_their_bytes(self):
        word = [3, 3, 4, 5]
        for many in (1, 2, 3):
            self.refuse([70, 1] + word[:many], 2 + many)
            self.refuse([70, 1] + word[:many] + [26], 2 + many)
        self.refuse([70, 1] + word, 2)

    def test_numbers_of_parameters(self):
        for byte in NO_BYTES:
            self.refuse([70, 1, 1, 5, byte, 0], 4)
        self.refuse([70, 1, 1, 5, 255] + [1, 0] * 254, 5 + 2 * 254)

    def test_numbers_of_statements(self):
        for byte in [61, 255] + NO_BYTES:
            self.refuse([70, 1, 1, 5, 0, byte], 5)
            self.refuse([70, 1, 1, 5, 0, 1, 5, 1, 0, 1, byte], 10)
            self.refuse([70, 1, 1, 5, 0, 1, 4, 1, 0, 1, 0, 1, 0, 1, 0, byte], 15)

    def test_statements(self):
        for byte in [7, 255] + NO_BYTES:
            self.refuse([70, 1, 1, 5, 0, 1, byte, 1, 0, 1], 6)
        for byte in [8, 255] + NO_BYTES:
            self.refuse([70, 1, 1, 5, 0, 1, 1, byte, 1, 0, 1], 7)
        for byte in [3, 255] + NO_BYTES:
            self.refuse([70, 1, 1, 5, 0, 1, 4, 1, 0, 1, byte, 1, 0, 1, 0, 0], 10)

    def test_calls(self):
        start = [70, 1, 1, 5, 0, 1, 6, 1, 0, 1, 5]
        for byte in NO_BYTES:
            self.refuse(start + [byte], 11)
            self.refuse(start + [0, byte], 12)
            self.refuse(start + [0, 1, byte], 13)
        self.refuse(start + [255] + [1, 0, 1] * 254, 12 + 3 * 254)

    def test_expressions(self):
        start = [70, 1, 1, 5, 0, 1, 2]
        for byte in [0, -256, 257] + NO_BYTES:
            self.refuse(start + [byte, 0, 1], 7)
            # The value in `put` and the second expression of an `if` begin at other places.
            self.refuse([70, 1, 1, 5, 0, 1, 1, 0, byte, 0, 1], 8)
            self.refuse([70, 1, 1, 5, 0, 1, 4, 1, 0, 1, 0, byte, 0, 1, 0, 0], 11)
        for byte in [1, 2, 3, 255] + NO_BYTES:
            self.refuse(start + [1, byte, 1], 8)
        for byte in [3, 255] + NO_BYTES:
            self.refuse(start + [2, 0, 1, byte, 1], 10)
        for byte in [10, 255] + NO_BYTES:
            self.refuse(start + [1, 0, byte], 9)
            self.refuse(start + [2, 0, 1, 2, byte], 11)

    def test_the_largest_numbers_of_terms(self):
        for many in (254, 255):
            code = function(1, 2, many, *([0, 1] * many))
            self.assertEqual(decode(code), "def f() {\n  emit " + " + ".join(["A"] * many) + ";\n}")
            self.refuse(code[:-3], len(code) - 3)

    def test_numbers_of_terms_above_255_are_no_bytes(self):
        start = [70, 1, 1, 5, 0, 1, 2]
        for many in (256, 257, 300, 512):
            self.refuse(start + [many], 7)
            self.refuse(start + [many, 0, 1], 7)
            self.refuse(function(1, 2, many, *([0, 1] * many)), 7)
            source = "def f() { emit A" + " + A" * (many - 1) + "; }"
            self.refuse(encode(source), 7)
        self.refuse(start + [10 ** 30, 0, 1, 0, 1], 7)

    def test_numbers_above_the_largest(self):
        start = [70, 1, 1, 5, 0, 1, 2, 1, 0, 0]
        self.assertEqual(decode(function(1, 2, 1, 0, 0, 15, 66, 63)), "def f() {\n  emit 999999;\n}")
        for number in ([15, 66, 64], [15, 67, 0], [16, 0, 0], [255, 255, 255]):
            self.refuse(whole(start + number), 10)
            self.refuse(start + number, 10)
            self.refuse(start + number[:2], 12)
            self.refuse(start + number[:1], 11)
            self.refuse(start + number[:1] + [256, 0], 11)
            self.refuse(start + number[:2] + [None], 12)

    def test_checksums(self):
        for source in SOURCES:
            code = encode(source)
            for byte in [byte for byte in range(256) if byte != code[-1]] + NO_BYTES:
                self.refuse(code[:-1] + [byte], len(code) - 1)
                self.refuse(code[:-1] + [byte, 0], len(code) - 1)
        # True equals the checksum, which is the sum 257 of the bytes before it.
        code = [70, 1, 8] + [25] * 7 + [3, 0, 0]
        self.assertEqual(decode(code + [1]), "def zzzzzzzd() {\n}")
        self.refuse(code + [True], 13)

    def test_codes_that_are_cut(self):
        for source in SOURCES:
            code = encode(source)
            for length in range(len(code)):
                self.refuse(code[:length], length)

    def test_codes_that_are_extended(self):
        for source in SOURCES:
            code = encode(source)
            for byte in [0, 70, code[-1], 255] + NO_BYTES:
                self.refuse(code + [byte], len(code))
                self.refuse(code + [byte, byte], len(code))
            self.refuse(code + code, len(code))

    def test_bytes_of_other_kinds_anywhere(self):
        for source in SOURCES:
            code = encode(source)
            for at in range(len(code)):
                for byte in ("7", None, True, False, (1,), [1], -1, 256, 10 ** 30):
                    self.refuse(code[:at] + [byte] + code[at + 1:], at)

    def test_blocks_that_are_nested_deep(self):
        for deep in (59, 100):
            start = [70, 1, 1, 5, 0] + [1, 5, 1, 0, 1] * deep
            self.refuse(start + [0], len(start) + 1)
            self.refuse(start + [61], len(start))
            self.refuse(start, len(start))


class Changed(unittest.TestCase):
    def test_all_changes_of_a_byte(self):
        kinds = []
        for source in SOURCES:
            code = encode(source)
            for at in range(len(code)):
                for byte in list(range(0, 32)) + [60, 61, 70, 127, 255, 256, -1]:
                    changed = code[:at] + [byte] + code[at + 1:]
                    self.compare(changed, kinds)
                    self.compare(whole(changed[:-1]), kinds)
        self.assertGreater(min(kinds.count("source"), kinds.count("check"), kinds.count("code")), 100)

    def test_bytes_that_are_left_out_or_added(self):
        kinds = []
        for source in SOURCES:
            code = encode(source)
            for at in range(len(code)):
                self.compare(code[:at] + code[at + 1:], kinds)
                self.compare(whole(code[:at] + code[at + 1:-1]), kinds)
                for byte in (0, 1, 2, 9):
                    self.compare(code[:at] + [byte] + code[at:], kinds)
                    self.compare(whole(code[:at] + [byte] + code[at:-1]), kinds)
        self.assertGreater(kinds.count("code"), 100)

    def test_changes_of_sources_that_are_made_up(self):
        for source, _, _ in make_runs(range(25)):
            code = encode(source)
            for at in range(len(code)):
                self.compare(whole(code[:at] + [(code[at] + 1) % 256] + code[at + 1:-1]), [])

    def compare(self, code, kinds):
        """Decoding must do what the second decoder does."""
        expected = expected_result(code)
        self.assertEqual(result_of(code), expected, code)
        kinds.append("source" if isinstance(expected, str) else "code" if expected[0] == "code" else "check")


class Checked(Codes):
    def refuse_source(self, code, reason, line, column):
        """A code must tell a source with this fault, also by the second decoder."""
        fault = self.check(CheckFault, decode, code)
        self.assertEqual(fault, {"reason": reason, "line": line, "column": column})
        self.assertEqual(expected_result(code), (reason, line, column))

    def test_too_many_functions(self):
        for many in (13, 14, 255):
            functions = sum([[3, place // 26, place % 26, 25, 0, 0] for place in range(many)], [])
            self.refuse_source(whole([70, many] + functions), "functions", 24, 4)

    def test_too_many_parameters(self):
        self.refuse_source(whole([70, 1, 1, 0, 5, 1, 1, 1, 2, 1, 3, 1, 4, 1, 5, 0]), "parameters", 0, 18)
        words = sum([[3, place // 26, place % 26, 25] for place in range(255)], [])
        self.refuse_source(whole([70, 1, 1, 0, 255] + words + [0]), "parameters", 0, 26)

    def test_duplicates(self):
        self.refuse_source(whole([70, 2] + [1, 5, 0, 0] * 2), "duplicate", 2, 4)
        self.refuse_source(whole([70, 1, 1, 5, 2, 1, 0, 1, 0, 0]), "duplicate", 0, 9)

    def test_too_many_statements(self):
        emit = [2, 1, 0, 1]
        self.assertEqual(decode(function(60, *(emit * 60))).count("emit"), 60)
        code = whole([70, 2, 1, 5, 0, 60] + emit * 60 + [1, 6, 0, 1] + emit)
        self.refuse_source(code, "statements", 63, 2)
        code = function(2, 5, 1, 0, 1, 60, *(emit * 60), *emit)
        self.refuse_source(code, "statements", 61, 4)

    def test_nesting(self):
        for deep in (9, 59, 100):
            code = function(*([1, 5, 1, 0, 1] * deep), 0)
            self.refuse_source(code, "nesting", 9, 18)
        code = function(*([1, 5, 1, 0, 1] * 8), 0)
        self.assertEqual(decode(code).count("loop"), 8)

    def test_nesting_in_second_blocks(self):
        code = function(*([1, 4, 1, 0, 1, 0, 1, 0, 1, 0] * 59), 0)
        self.refuse_source(code, "nesting", 17, 18)

    def test_calls(self):
        call = [6, 1, 23, 1, 5, 0]
        for part, total in ((0, 1), (1, 0), (2, 1), (9, 10), (255, 255), (0, 0)):
            self.refuse_source(function(1, *call, part, total, 1, 0, 1), "share", 1, 21)
        self.refuse_source(function(1, 6, 1, 23, 1, 6, 0, 1, 1, 1, 0, 1), "undefined", 1, 11)
        self.refuse_source(function(1, 6, 1, 23, 1, 5, 1, 1, 0, 1, 1, 1, 1, 0, 1), "arguments", 1, 11)
        arguments = [1, 0, 1] * 255
        self.refuse_source(function(1, 6, 1, 23, 1, 5, 255, *arguments, 1, 1, 1, 0, 1), "arguments", 1, 11)

    def test_undefined_locals(self):
        self.refuse_source(function(1, 2, 1, 0, 9, 1, 0), "undefined", 1, 7)
        self.refuse_source(function(1, 2, 2, 0, 1, 1, 9, 2, 0, 1), "undefined", 1, 11)

    def test_places_are_those_in_the_canonical_form(self):
        # The block of the `if` and an empty one, then a block behind `else`.
        code = function(2, 4, 1, 0, 1, 0, 1, 0, 1, 1, 5, 1, 0, 1, 0, 0, 4, 1, 0, 1, 2, 1, 0, 1, 0, 1, 2, 1, 0, 9, 1, 23)
        self.refuse_source(code, "undefined", 7, 9)


if __name__ == "__main__":
    unittest.main()
