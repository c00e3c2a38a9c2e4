"""Point 17: the texts of sessions."""

import random
import re
import unittest

from fuelshare.errors import InvalidFuel, InvalidOperation, InvalidSession
from fuelshare.session import format_session, parse_session
from fuelshare.workspace import replay
from tests.helper import (
    EXAMPLE, RIGHT, WRONG_FUEL, Faults, error_of, make_operation, replay_model, tell_workspace,
)

COUNTS = "def f(n, m) {\n  put A = A + n;\n\n  emit A * m;\n}\n"

# Sessions with their texts.
SESSIONS = [
    ((20, [("load", "a", "def f(n) { return n; }"), ("run", "a", (3,), 1, 2)]),
     ["fuel 20", "load a 1", "def f(n) { return n; }", "run a 1/2 3"]),
    ((0, []), ["fuel 0"]),
    ((10000, [("pour", 0), ("undo",), ("undo",), ("redo",), ("redo",)]),
     ["fuel 10000", "pour 0", "undo", "undo", "redo", "redo"]),
    ((7, [("load", "def", COUNTS), ("run", "def", (0, 999999), 8, 9), ("unload", "def"), ("pour", 9000), ("undo",),
          ("load", "abcdefgh", "\n\ndef f() {}"), ("run", "abcdefgh", (), 9, 9)]),
     ["fuel 7", "load def 6", "def f(n, m) {", "  put A = A + n;", "", "  emit A * m;", "}", "", "run def 8/9 0 999999",
      "unload def", "pour 9000", "undo", "load abcdefgh 3", "", "", "def f() {}", "run abcdefgh 9/9"]),
]

WRONG_FIRST_LINES = [
    "", "fuel", "fuel ", " fuel 20", "fuel 20 ", "fuel  20", "fuel 020", "fuel 00", "fuel -1", "fuel +1",
    "fuel 1000000",
    "fuel 0000000", "fuel a", "fuel 20 20", "fuel 2 0", "Fuel 20", "fuels 20", "20", "pour 20", "fuel20", "fuel 2.0",
    "fuel 1_0",
    "undo", "fuel 20/1",
]

WRONG_LINES = [
    "", " ", "  ", "a", "20", "undo ", " undo", "undo 1", "undo undo", "Undo", "undoo", "redo ", " redo", "redo a",
    "unload", "unload ", "unload A", "unload a1", "unload abcdefghi", "unload a b", "unload  a", "unload a ",
    " unload a",
    "unload 1", "unload a,b", "pour", "pour ", "pour a", "pour 05", "pour 00", "pour -5", "pour +5", "pour 1000000",
    "pour 5 5", "pour  5", "pour 5 ", "pour 5/1", "pour 5_0", "fuel 20", "fuel", "save a", "restore a", "batch", "run",
    "run a",
    "run ", "run a ", "run a 1/2 ", "run a 1/2  5", "run  a 1/2", "run A 1/2", "run abcdefghi 1/2", "run a 1",
    "run a 1/",
    "run a /2", "run a /", "run a 1/2/3", "run a 1//2", "run a 01/2", "run a 1/02", "run a 1000000/2",
    "run a 1/1000000",
    "run a 1 2", "run a 1/2 05", "run a 1/2 a", "run a 1/2 -1", "run a 1/2 1000000", "run a 1/2 3 4 5 x", "run 1/2 a",
    "run a 1 / 2", "run a 1/2 3/4", "run a a/b", "run a 5", "run 5 1/2", "load", "load a", "load a 0", "load a 00",
    "load a 01",
    "load a -1", "load a b", "load a 1 1", "load A 1", "load abcdefghi 1", "load  a 1", "load a  1", "load a 1 ",
    " load a 1",
    "load 1 a", "load a 1000000", "load a 4", "load a 999999", "load a 5", "a undo", "undo,redo",
]


def expected_session(text):
    """Returns what parsing must return, or the error that it must raise, by a second reading."""
    number = "(0|[1-9][0-9]{0,5})"
    name = "([a-z]{1,8})"
    lines = text.split("\n")
    first = re.fullmatch(f"fuel {number}", lines[0])
    if not first:
        return InvalidSession, {"line": 0}
    operations = []
    at = 1
    while at < len(lines):
        line = lines[at]
        load = re.fullmatch(f"load {name} {number}", line)
        many = int(load.group(2)) if load else 0
        if load and 1 <= many < len(lines) - at:
            operations.append(("load", load.group(1), "\n".join(lines[at + 1:at + 1 + many])))
        elif line in ("undo", "redo"):
            operations.append((line,))
        elif re.fullmatch(f"unload {name}", line):
            operations.append(tuple(line.split()))
        elif re.fullmatch(f"pour {number}", line):
            operations.append(("pour", int(line[5:])))
        elif re.fullmatch(f"run {name} {number}/{number}( {number})*", line):
            numbers = [int(digits) for digits in re.findall("[0-9]+", line)]
            operations.append(("run", line.split()[1], tuple(numbers[2:]), numbers[0], numbers[1]))
        else:
            return InvalidSession, {"line": at}
        at += 1 + many
    fuel = int(first.group(1))
    return error_of(replay_model, fuel, operations) or (fuel, operations)


def parsed(text):
    """Returns what parsing returns, or the error that it raises."""
    found = []
    return error_of(lambda: found.append(parse_session(text))) or found[0]


class Texts(unittest.TestCase):
    def test_the_examples_of_the_interface(self):
        operations = [("load", "a", "def f(n) { return n; }"), ("run", "a", (3,), 1, 2)]
        self.assertEqual(format_session(20, operations), "fuel 20\nload a 1\ndef f(n) { return n; }\nrun a 1/2 3")
        self.assertEqual(parse_session("fuel 20\npour 5\nundo"), (20, [("pour", 5), ("undo",)]))

    def test_texts(self):
        for (fuel, operations), lines in SESSIONS:
            self.assertEqual(format_session(fuel, operations), "\n".join(lines))
            self.assertEqual(parse_session("\n".join(lines)), (fuel, operations))

    def test_sources_with_line_feeds(self):
        for source in ("def f() {}", "\ndef f() {}", "def f() {}\n", "\n\n\ndef f(\n)\n{\n}\n\n\n", "  def f() {}  "):
            operations = [("load", "a", source), ("load", "b", source), ("undo",)]
            many = source.count("\n") + 1
            text = f"fuel 3\nload a {many}\n{source}\nload b {many}\n{source}\nundo"
            self.assertEqual(format_session(3, operations), text)
            self.assertEqual(parse_session(text), (3, operations))
            self.assertEqual(parse_session(text[:-5]), (3, operations[:2]))

    def test_lines_of_a_source_are_not_read(self):
        # A line of a source can look like an operation; this one is the head of a list of parameters.
        text = "fuel 9\nload a 4\ndef f(\nundo\n) { return\n7; }\nundo"
        self.assertEqual(parse_session(text), (9, [("load", "a", "def f(\nundo\n) { return\n7; }"), ("undo",)]))

    def test_all_numbers(self):
        for number in (0, 1, 9, 10, 99999, 100000, 999999):
            operations = [("load", "a", RIGHT), ("run", "a", (number,), 1, 9)]
            text = f"fuel 20\nload a 1\n{RIGHT}\nrun a 1/9 {number}"
            self.assertEqual(format_session(20, operations), text)
            self.assertEqual(parse_session(text), (20, operations))

    def test_the_kinds_of_what_is_returned(self):
        session = parse_session("fuel 20\nload a 1\ndef f() {}\nrun a 1/2\nundo")
        self.assertIs(type(session), tuple)
        self.assertEqual([type(part) for part in session], [int, list])
        operations = session[1]
        self.assertEqual([type(operation) for operation in operations], [tuple] * 3)
        self.assertEqual([type(part) for part in operations[1]], [str, str, tuple, int, int])

    def test_sessions_that_are_made_up(self):
        many = 0
        for seed in range(400):
            chance = random.Random(seed)
            operations = [make_operation(chance) for _ in range(chance.choice([1, 2, 4, 6]))]
            error = error_of(replay_model, 100, operations)
            self.assertEqual(error_of(format_session, 100, operations), error)
            if error is None:
                many += 1
                text = format_session(100, operations)
                self.assertEqual(parse_session(text), (100, operations))
                self.assertEqual(format_session(*parse_session(text)), text)
                replayed = replay(*parse_session(text))
                self.assertEqual(tell_workspace(replayed), tell_workspace(replay(100, operations)))
        self.assertGreater(many, 50)


class FormatFaults(Faults):
    def test_fuel(self):
        for fuel in WRONG_FUEL:
            for operations in ([], None, [None], [("undo", 1)], [("unload", "a")]):
                self.check(InvalidFuel, format_session, fuel, operations)

    def test_no_lists(self):
        for operations in (None, True, 0, "undo", (), (("undo",),)):
            self.assertEqual(self.check(InvalidOperation, format_session, 20, operations), {"position": 0})

    def test_malformed_operations(self):
        for entry in (None, (), ["undo"], ("undo", 1), ("pour",), ("stop",), "undo", ("run", "a", (), 1), (["undo"],)):
            operations = [("pour", 1), entry, None]
            self.assertEqual(self.check(InvalidOperation, format_session, 20, operations), {"position": 1})

    def test_operations_that_fail(self):
        for entry in (("unload", "b"), ("pour", 10000), ("pour", True), ("load", "A", RIGHT), ("load", "b", "def"),
                      ("run", "b", (), 1, 1), ("run", "a", (1, 2), 1, 1), ("run", "a", [1], 1, 1),
                      ("run", "a", (1,), 2, 1)):
            operations = [("load", "a", RIGHT), ("undo",), ("redo",), entry, ("pour",)]
            self.assertEqual(self.check(InvalidOperation, format_session, 20, operations), {"position": 3})

    def test_nothing_is_modified(self):
        for (fuel, operations), _ in SESSIONS:
            copied = list(operations)
            format_session(fuel, operations)
            self.assertEqual(operations, copied)


class ParseFaults(Faults):
    def refuse(self, error, text, **attributes):
        """A text must raise this error, also by the second reading."""
        self.assertEqual(self.check(error, parse_session, text), attributes, text)
        self.assertEqual(expected_session(text), (error, attributes))

    def test_the_example_of_the_interface(self):
        self.refuse(InvalidSession, "fuel 20\npour 05", line=1)

    def test_the_first_line(self):
        for line in WRONG_FIRST_LINES:
            self.refuse(InvalidSession, line, line=0)
            self.refuse(InvalidSession, line + "\npour 5", line=0)
            self.refuse(InvalidSession, line + "\npour 05", line=0)
            self.refuse(InvalidSession, "\n" + line, line=0)

    def test_wrong_lines(self):
        for line in WRONG_LINES:
            self.refuse(InvalidSession, f"fuel 20\n{line}", line=1)
            self.refuse(InvalidSession, f"fuel 20\nundo\n{line}\nundo\npour 05", line=2)
            self.refuse(InvalidSession, f"fuel 20\nload a 2\n{RIGHT}\n\n{line}\nundo", line=4)

    def test_an_empty_last_line(self):
        self.refuse(InvalidSession, "fuel 20\n", line=1)
        self.refuse(InvalidSession, "fuel 20\nundo\n", line=2)
        self.refuse(InvalidSession, f"fuel 20\nload a 1\n{RIGHT}\n", line=3)
        self.assertEqual(parse_session(f"fuel 20\nload a 2\n{RIGHT}\n"), (20, [("load", "a", RIGHT + "\n")]))

    def test_numbers_of_lines(self):
        for many in range(1, 8):
            text = f"fuel 20\nundo\nload a {many}\n" + "\n" * 4 + RIGHT
            if many == 5:
                self.assertEqual(parse_session(text), (20, [("undo",), ("load", "a", "\n" * 4 + RIGHT)]))
            elif many < 5:
                # Behind a source that is too short there is an empty line, or none of a session.
                self.refuse(InvalidSession, text, line=3 + many)
            else:
                self.refuse(InvalidSession, text, line=2)
        self.refuse(InvalidSession, "fuel 20\nload a 1", line=1)

    def test_invalid_lines_come_before_all_other_errors(self):
        self.refuse(InvalidSession, "fuel 10001\npour 999999\nload a 1\ndef\nunload b\nrun a 0/0\nundo 1", line=6)
        self.refuse(InvalidFuel, "fuel 10001\npour 999999\nload a 1\ndef\nunload b\nrun a 0/0\nundo")

    def test_fuel(self):
        for fuel in (10001, 99999, 999999):
            self.refuse(InvalidFuel, f"fuel {fuel}")
            self.refuse(InvalidFuel, f"fuel {fuel}\nunload a")
        self.assertEqual(parse_session("fuel 10000"), (10000, []))

    def test_operations_that_fail(self):
        for lines in ("unload b", "pour 9981", "pour 999999", "load b 1\ndef", "load b 3\n\n\n", "run b 1/2 1",
                      "run a 1/2", "run a 1/2 1 2", "run a 2/1 1", "run a 0/0 1", "run a 999999/999999 1",
                      "run a 1/10 1",
                      "load b 1\ndef f() { return x; }"):
            self.refuse(InvalidOperation, f"fuel 20\nload a 1\n{RIGHT}\nundo\nredo\n{lines}\npour 999999", position=3)

    def test_positions_are_not_lines(self):
        text = "fuel 20\nload a 6\n" + "\n" * 5 + RIGHT + "\npour 1\nunload b"
        self.refuse(InvalidOperation, text, position=2)


class Changed(unittest.TestCase):
    def test_all_small_changes(self):
        texts = ["\n".join(lines) for _, lines in SESSIONS] + [f"fuel 10\nload a 1\n{EXAMPLE}\nrun a 1/2 5\nundo"]
        kinds = []
        for text in texts:
            for at in range(len(text) + 1):
                changes = [text[:at], text[:at] + text[at + 1:]]
                for character in " \n0579/azAfu(};":
                    changes += [text[:at] + character + text[at:], text[:at] + character + text[at + 1:]]
                for changed in changes:
                    expected = expected_session(changed)
                    self.assertEqual(parsed(changed), expected, changed)
                    kinds.append(expected[0] if isinstance(expected[0], type) else None)
        for kind in (None, InvalidSession, InvalidFuel, InvalidOperation):
            self.assertGreater(kinds.count(kind), 5)

    def test_lines_that_are_left_out_doubled_or_exchanged(self):
        for _, lines in SESSIONS:
            for at in range(len(lines)):
                for other in range(len(lines)):
                    moved = list(lines)
                    moved[at], moved[other] = moved[other], moved[at]
                    for changed in (moved, lines[:at] + lines[other:], lines[:at] + [lines[other]] + lines[at:]):
                        text = "\n".join(changed)
                        self.assertEqual(parsed(text), expected_session(text), text)


if __name__ == "__main__":
    unittest.main()
