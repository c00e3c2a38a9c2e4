"""What several test files need.

Values that are not accepted, and sources with faults, with a class of tests that expects errors;
marks in sources, faults as tuples and a second reading of the grammar; then a second reading
and execution of sources, by recursion, and sources that are made up from a seed; at last a
second workspace, which keeps nothing but its operations.
There, statements are tuples that begin with their keyword, and expressions are lists of
texts: terms and, between them, operators.
"""

import functools
import random
import re
import sys
import unittest

from fuelshare.compiler import count_statements
from fuelshare.errors import (
    CheckFault, FuelError, InvalidArguments, InvalidFuel, InvalidName, InvalidOperation, InvalidShare, SyntaxFault,
    UnknownName,
)
from fuelshare.formatter import format_source
from fuelshare.optimizer import optimize

EXAMPLE = (
    "def main(n) { call r = half(n) share 1/2 else 9; emit r; return r + 1; } "
    "def half(x) { put A = x; return x; }"
)

RIGHT = "def f(n) { return n; }"

NO_CELLS = (0,) * 8
MOST_STEPS = 5000

WRONG_VALUES = [-1, 1000000, 10 ** 30, True, False, None, "1", "", (), (1,), [1]]
WRONG_ARGUMENTS = [(), (1, 2), (1, 2, 3), [], [1], 1, 0, None, True, False, "", "1", ((1,),)]
WRONG_ARGUMENTS += [(value,) for value in WRONG_VALUES]
WRONG_CELLS = [(), (0,) * 7, (0,) * 9, [0] * 8, 0, None, True, "00000000", ((0,) * 8,)]
WRONG_CELLS += [(0,) * place + (value,) + (0,) * (7 - place) for place in (0, 4, 7) for value in WRONG_VALUES]
WRONG_FUEL = [-1, 10001, 10 ** 30, True, False, None, "5", "", (), (5,), [5], []]
WRONG_SHARES = [
    (0, 1), (0, 0), (1, 0), (-1, 1), (-1, -1), (1, -1), (2, 1), (9, 8), (10, 9), (1, 10), (10, 10), (10 ** 30, 9),
    (True, 1), (1, True), (True, True), (False, 1), (None, 1), (1, None), ("1", 2), (1, "2"), ((1,), 2), (1, (2,)),
    ([1], 2), (1, [2]), ("", ""), ([], []), ((), ()),
]
WRONG_NAMES = [
    "", "A", "a1", "1", "a b", " a", "a ", "a\n", "abcdefghi", "a_b", "a-b", "aB", 0, 1, -1, True, False, None, (),
    ("a",),
    [], ["a"], [["a"]],
]


KEYWORDS = "def set put emit return if else loop call share".split()
SIGNS = list("(){}=;,/<>+-*")

# One token of each kind, by its text.
SAMPLES = {"word": "x", "cell": "A", "number": "7"}
SAMPLES.update({text: text for text in KEYWORDS + SIGNS})

# The grammar of point 2; what is not a key here is a kind of token.
GRAMMAR = {
    "source": ["function functions"],
    "functions": ["", "function functions"],
    "function": ["def word ( words ) block"],
    "words": ["", "word morewords"],
    "morewords": ["", ", word morewords"],
    "block": ["{ statements }"],
    "statements": ["", "statement statements"],
    "statement": [
        "set word = expression ;",
        "put cell = expression ;",
        "emit expression ;",
        "return expression ;",
        "if expression comparison expression block",
        "if expression comparison expression block else block",
        "loop expression block",
        "call word = word ( expressions ) share number / number else expression ;",
    ],
    "comparison": ["<", "=", ">"],
    "expressions": ["", "expression moreexpressions"],
    "moreexpressions": ["", ", expression moreexpressions"],
    "expression": ["term terms"],
    "terms": ["", "operator term terms"],
    "operator": ["+", "-", "*"],
    "term": ["number", "word", "cell"],
}


@functools.lru_cache(maxsize=None)
def expand(stack):
    """Returns the stacks with a token on top, or empty, that a stack of symbols can become."""
    if not stack or stack[0] not in GRAMMAR:
        return frozenset([stack])
    found = set()
    for choice in GRAMMAR[stack[0]]:
        found |= expand(tuple(choice.split()) + stack[1:])
    return frozenset(found)


@functools.lru_cache(maxsize=None)
def after(stacks, kind):
    """Returns the stacks that remain behind a token of this kind."""
    found = set()
    for stack in stacks:
        if stack and stack[0] == kind:
            found |= expand(stack[1:])
    return frozenset(found)


def first_misfit(kinds):
    """Returns the place of the first token that does not fit, that of the end, or None."""
    stacks = expand(("source",))
    for place, kind in enumerate(kinds):
        stacks = after(stacks, kind)
        if not stacks:
            return place
    return None if () in stacks else len(kinds)


def place_of(source, offset):
    """Returns the line and the column of an offset in a source."""
    before = source[:offset]
    return before.count("\n"), offset - (before.rfind("\n") + 1)


def expected_fault(source):
    """Returns the line and column of the SyntaxFault of a source by this second reading, or None."""
    kinds = []
    offsets = []
    for match in re.finditer(r"[a-z]+|[0-9]+|[^ \n]", source):
        text = match.group()
        kind = kind_of(text)
        if kind is None:
            return place_of(source, match.start())
        kinds.append(kind)
        offsets.append(match.start())
    misfit = first_misfit(kinds)
    if misfit is None:
        return None
    if misfit == len(kinds):
        return source.count("\n") + 1, 0
    return place_of(source, offsets[misfit])


def kind_of(text):
    """Returns the kind of a token, or None if it is none."""
    if text in KEYWORDS or text in SIGNS:
        return text
    for kind, pattern in (("word", "[a-z]{1,8}"), ("cell", "[A-H]"), ("number", "0|[1-9][0-9]{0,5}")):
        if re.fullmatch(pattern, text):
            return kind
    return None


def marked(text):
    """Takes the mark @ out of a text; returns the source and the line and column of the mark."""
    assert text.count("@") == 1, text
    offset = text.index("@")
    return (text.replace("@", ""),) + place_of(text, offset)


def fault_by(function, source):
    """Returns the fault that a function raises as a tuple, or None."""
    try:
        function(source)
    except SyntaxFault as fault:
        return ("syntax", fault.line, fault.column)
    except CheckFault as fault:
        return (fault.reason, fault.line, fault.column)
    return None


def fault_of(source):
    """Returns the fault of a source, which must be the same for all functions, and when repeated."""
    fault = fault_by(format_source, source)
    assert fault_by(count_statements, source) == fault, source
    assert fault_by(optimize, source) == fault, source
    assert fault_by(format_source, source) == fault, source
    return fault


def lines_of(source):
    """Returns the canonical form of a source as a list of lines."""
    return format_source(source).split("\n")


class Dry(Exception):
    """The innermost call runs dry."""


class TooLong(Exception):
    """A full run takes too many steps."""


class Reader:
    """Reads a source that is known to be right."""

    def __init__(self, source):
        self.tokens = re.findall(r"[a-z]+|[0-9]+|[^ \n]", source)

    def take(self):
        return self.tokens.pop(0)

    def skip(self, text):
        assert self.take() == text

    def read_source(self):
        functions = {}
        while self.tokens:
            self.skip("def")
            name = self.take()
            parameters = self.read_list(self.take)
            functions[name] = (parameters, self.read_block())
        return functions

    def read_list(self, read):
        self.skip("(")
        items = []
        while self.tokens[0] != ")":
            if items:
                self.skip(",")
            items.append(read())
        self.skip(")")
        return items

    def read_block(self):
        self.skip("{")
        block = []
        while self.tokens[0] != "}":
            block.append(self.read_statement())
        self.skip("}")
        return block

    def read_statement(self):
        keyword = self.take()
        if keyword == "if":
            head = (keyword, self.read_expression(), self.take(), self.read_expression(), self.read_block())
            if self.tokens[0] != "else":
                return head + ([],)
            self.skip("else")
            return head + (self.read_block(),)
        if keyword == "loop":
            return (keyword, self.read_expression(), self.read_block())
        if keyword == "call":
            statement = self.read_call()
        elif keyword in ("set", "put"):
            target = self.take()
            self.skip("=")
            statement = (keyword, target, self.read_expression())
        else:
            statement = (keyword, self.read_expression())
        self.skip(";")
        return statement

    def read_call(self):
        target = self.take()
        self.skip("=")
        name = self.take()
        arguments = self.read_list(self.read_expression)
        self.skip("share")
        part = int(self.take())
        self.skip("/")
        whole = int(self.take())
        self.skip("else")
        return ("call", target, name, arguments, part, whole, self.read_expression())

    def read_expression(self):
        expression = [self.take()]
        while self.tokens[0] in "+-*":
            expression += [self.take(), self.take()]
        return expression


class Reference:
    """A run of a source; with fuel None the full run.

    `states` has what a Stepper tells before each step: the fuel of all calls, the
    cells and the output (None in full runs); `begins` has the function, arguments and cells of each call.
    """

    def __init__(self, source, arguments, fuel, cells=NO_CELLS):
        self.functions = Reader(source).read_source()
        self.full = fuel is None
        self.cells = list(cells)
        self.output = []
        self.stack = []
        self.events = []
        self.states = []
        self.begins = []
        self.result, self.rest = self.start(list(arguments), 10 ** 9 if self.full else fuel)

    def start(self, arguments, fuel):
        """Calls the first function; only here Python may go deeper, as the package must not need it."""
        limit = sys.getrecursionlimit()
        sys.setrecursionlimit(100000)
        try:
            return self.call(list(self.functions)[0], arguments, fuel)
        finally:
            sys.setrecursionlimit(limit)

    def outcome(self):
        status = "dry" if self.result is None else "done"
        return (status, self.result, tuple(self.cells), tuple(self.output), self.rest)

    def has_dry(self):
        return any(event[0] == "dry" for event in self.events)

    def call(self, name, arguments, fuel):
        before = list(self.cells), list(self.output)
        self.stack.append(fuel)
        self.events.append(("call", name, fuel))
        self.begins.append((name, tuple(arguments), tuple(self.cells)))
        parameters, body = self.functions[name]
        try:
            value = self.execute(body, dict(zip(parameters, arguments)))
        except Dry:
            self.stack.pop()
            self.events.append(("dry", name))
            self.cells, self.output = before
            return None, 0
        value = value or 0
        rest = self.stack.pop()
        self.events.append(("return", name, value, rest))
        return value, rest

    def pay(self):
        self.states.append(None if self.full else (list(self.stack), tuple(self.cells), tuple(self.output)))
        if self.full and len(self.states) > MOST_STEPS:
            raise TooLong
        if self.stack[-1] == 0:
            raise Dry
        self.stack[-1] -= 1

    def execute(self, block, known):
        """Executes a block; returns the value of a `return`, or None."""
        for statement in block:
            self.pay()
            # Without a star in the call: with one, Python 3.13 does not go as deep.
            action = getattr(self, "do_" + statement[0])
            value = action(known, statement)
            if value is not None:
                return value
        return None

    def value(self, known, expression):
        value = self.term(known, expression[0])
        for operator, term in zip(expression[1::2], expression[2::2]):
            other = self.term(known, term)
            value = {"+": value + other, "-": value - other, "*": value * other}[operator] % 10 ** 6
        return value

    def term(self, known, term):
        if term.isdigit():
            return int(term)
        if term.isupper():
            return self.cells["ABCDEFGH".index(term)]
        return known.get(term, 0)

    def do_set(self, known, statement):
        _, target, expression = statement
        known[target] = self.value(known, expression)

    def do_put(self, known, statement):
        _, target, expression = statement
        self.cells["ABCDEFGH".index(target)] = self.value(known, expression)

    def do_emit(self, known, statement):
        _, expression = statement
        self.output.append(self.value(known, expression))

    def do_return(self, known, statement):
        _, expression = statement
        return self.value(known, expression)

    def do_if(self, known, statement):
        _, left, comparison, right, first, second = statement
        values = self.value(known, left), self.value(known, right)
        order = (values[0] > values[1]) - (values[0] < values[1])
        return self.execute(first if order == {"<": -1, "=": 0, ">": 1}[comparison] else second, known)

    def do_loop(self, known, statement):
        _, times, block = statement
        for _ in range(self.value(known, times)):
            self.pay()
            value = self.execute(block, known)
            if value is not None:
                return value
        return None

    def do_call(self, known, statement):
        _, target, name, arguments, part, whole, fallback = statement
        values = [self.value(known, argument) for argument in arguments]
        fuel = self.stack[-1] if self.full else part * self.stack[-1] // whole
        self.stack[-1] -= fuel
        value, rest = self.call(name, values, fuel)
        self.stack[-1] += rest
        known[target] = self.value(known, fallback) if value is None else value


def full_reference(source, arguments, cells=NO_CELLS):
    """Returns the full run of a source, or None if it takes too many steps."""
    try:
        return Reference(source, arguments, None, cells)
    except TooLong:
        return None


class Maker:
    """Makes a source up; the same seed makes the same source."""

    def __init__(self, seed):
        self.random = random.Random(seed)
        self.arities = {name: self.random.randrange(3) for name in "fgh"[:self.random.choice([1, 2, 3, 3])]}
        self.name = ""
        self.left = 0
        self.words = []

    def make(self):
        return "\n".join([self.make_function(name) for name in self.arities])

    def make_function(self, name):
        parameters = ["a", "b"][:self.arities[name]]
        self.words = parameters + ["x", "y"]
        self.name = name
        self.left = 14
        block = self.make_block(3)
        starts = " ".join(["set x = 3; set y = a;", "set y = 1;", "set x = x; set y = y;"][self.random.randrange(3):])
        if not parameters:
            starts = starts.replace("set y = a;", "")
        return f"def {name}({', '.join(parameters)}) {{ {starts} {block} }}"

    def make_block(self, depth):
        statements = []
        for _ in range(self.random.choice([0, 1, 1, 2, 3, 4])):
            if self.left > 0:
                self.left -= 1
                statements.append(self.make_statement(depth))
        return " ".join(statements)

    def make_statement(self, depth):
        kinds = ["set", "put", "emit", "call"] * 2 + ["call", "return"] + ["if", "if", "loop"] * (depth > 0)
        kind = self.random.choice(kinds)
        if kind == "set":
            return f"set {self.random.choice(self.words)} = {self.make_expression()};"
        if kind == "put":
            return f"put {self.random.choice('ABH')} = {self.make_expression()};"
        if kind == "if":
            comparison = self.random.choice("<=>")
            head = f"if {self.make_expression()} {comparison} {self.make_expression()}"
            first = self.make_block(depth - 1)
            second = self.random.choice([first, self.make_block(depth - 1), self.make_block(depth - 1)])
            return f"{head} {{ {first} }} else {{ {second} }}"
        if kind == "loop":
            times = self.random.choice(["0", "1", "2", "3", self.make_expression()])
            return f"loop {times} {{ {self.make_block(depth - 1)} }}"
        if kind == "call":
            return self.make_call()
        return f"{kind} {self.make_expression()};"

    def make_call(self):
        # Mostly a later function, so that many full runs end.
        later = [name for name in self.arities if name > self.name]
        name = self.random.choice(later if later and self.random.random() < 0.9 else list(self.arities))
        arguments = ", ".join([self.make_expression() for _ in range(self.arities[name])])
        whole = self.random.randint(1, 9)
        share = f"{self.random.randint(1, whole)}/{whole}"
        target = self.random.choice(self.words)
        return f"call {target} = {name}({arguments}) share {share} else {self.make_expression()};"

    def make_expression(self):
        terms = [self.make_term()]
        while self.random.random() < 0.35:
            terms += [self.random.choice("+-*"), self.make_term()]
        return " ".join(terms)

    def make_term(self):
        numbers = ["0", "1", "2", "3", "7", "0", "1", "2", "3", "999999"]
        return self.random.choice([self.random.choice(numbers), self.random.choice(self.words), "A"])

    def make_arguments(self):
        return tuple(self.random.choice([0, 1, 2, 5, 999999]) for _ in range(list(self.arities.values())[0]))

    def make_cells(self):
        return tuple(self.random.choice([0, 1, 4, 999999]) for _ in range(8))


def make_runs(seeds):
    """Returns a list of (source, arguments, cells) made up from the seeds."""
    runs = []
    for seed in seeds:
        maker = Maker(seed)
        runs.append((maker.make(), maker.make_arguments(), maker.make_cells()))
    return runs


# Sources with the fault that they have.
FAULTS = [
    ("", (SyntaxFault, {"line": 1, "column": 0})),
    ("\n \n", (SyntaxFault, {"line": 3, "column": 0})),
    ("def f(n) { return 07; }", (SyntaxFault, {"line": 0, "column": 18})),
    ("def f(n) {\n  return n\n}", (SyntaxFault, {"line": 2, "column": 0})),
    ("def f(n) { emit x; } }", (SyntaxFault, {"line": 0, "column": 21})),
    ("def f(n) { return m; }", (CheckFault, {"reason": "undefined", "line": 0, "column": 18})),
    ("def f(n, n) {}", (CheckFault, {"reason": "duplicate", "line": 0, "column": 9})),
    ("def f(n) {}\ndef f(n) {}", (CheckFault, {"reason": "duplicate", "line": 1, "column": 4})),
    ("def f(n) { call x = f(n) share 2/1 else 0; }", (CheckFault, {"reason": "share", "line": 0, "column": 31})),
    ("def f(n) { call x = f() share 1/1 else 0; }", (CheckFault, {"reason": "arguments", "line": 0, "column": 20})),
    ("def f(n) { " + "loop 1 { " * 9 + "}" * 10, (CheckFault, {"reason": "nesting", "line": 0, "column": 83})),
]


class Faults(unittest.TestCase):
    def check(self, error, function, *arguments, **keywords):
        """A call must raise this error, and raise it again."""
        for _ in range(2):
            with self.assertRaises(error) as caught:
                function(*arguments, **keywords)
            self.assertIs(type(caught.exception), error)
        return vars(caught.exception)

    def check_source(self, function, *arguments, **keywords):
        """A function must raise the faults of sources before all other errors."""
        for source, (error, attributes) in FAULTS:
            self.assertEqual(self.check(error, function, source, *arguments, **keywords), attributes, source)


def tell_workspace(workspace):
    """Returns all that a workspace tells about itself."""
    return (workspace.programs(), workspace.gauge(), workspace.cell_values(), workspace.log(), workspace.operations())


def error_of(function, *arguments):
    """Returns the error that a call raises as a tuple of its class and attributes, or None."""
    try:
        function(*arguments)
    except FuelError as error:
        return type(error), vars(error)
    return None


def call_operation(workspace, operation):
    """Calls the method of a workspace that is meant by an operation, and returns its result."""
    methods = {
        "load": workspace.load_program, "unload": workspace.unload, "pour": workspace.pour,
        "run": workspace.run_program, "undo": workspace.undo, "redo": workspace.redo,
    }
    return methods[operation[0]](*operation[1:])


class WorkspaceModel:
    """A workspace by the words of points 15 and 16; it tells its state by executing all operations in effect again."""

    def __init__(self, fuel):
        self.fuel = fuel
        self.done = []
        self.undone = []

    def state(self):
        state = ({}, self.fuel, NO_CELLS, [])
        for operation in self.done:
            state, _ = self.after(state, operation)
        return state

    def tell(self):
        programs, level, cells, log = self.state()
        return sorted(programs.items()), level, cells, log, [operation[0] for operation in self.done]

    def execute(self, operation):
        """Executes an operation and returns its result."""
        if operation[0] in ("undo", "redo"):
            source, target = (self.done, self.undone) if operation[0] == "undo" else (self.undone, self.done)
            if source:
                target.append(source.pop())
                return True
            return False
        _, result = self.after(self.state(), operation)
        self.done.append(operation)
        self.undone.clear()
        return result

    def batch(self, operations):
        """Executes operations, all or none, and returns their results."""
        before = list(self.done), list(self.undone)
        try:
            return [self.execute(operation) for operation in operations]
        except FuelError:
            self.done, self.undone = before
            raise

    def after(self, state, operation):
        """Returns the state behind an operation, and its result."""
        action = getattr(self, "do_" + operation[0])
        return action(*state, *operation[1:])

    def do_load(self, programs, level, cells, log, name, source):
        if not re.fullmatch("[a-z]{1,8}", name):
            raise InvalidName
        format_source(source)
        return ({**programs, name: source}, level, cells, log), None

    def do_unload(self, programs, level, cells, log, name):
        if name not in programs:
            raise UnknownName
        return ({other: programs[other] for other in programs if other != name}, level, cells, log), None

    def do_pour(self, programs, level, cells, log, amount):
        if not 0 <= amount <= 10000 or level + amount > 10000:
            raise InvalidFuel
        return (programs, level + amount, cells, log), level + amount

    def do_run(self, programs, level, cells, log, name, arguments, part, whole):
        if name not in programs:
            raise UnknownName
        parameters = list(Reader(programs[name]).read_source().values())[0][0]
        if len(parameters) != len(arguments):
            raise InvalidArguments
        if not 1 <= part <= whole <= 9:
            raise InvalidShare
        fuel = part * level // whole
        status, result, cells, output, rest = Reference(programs[name], arguments, fuel, cells).outcome()
        return (programs, level - fuel + rest, cells, log + list(output)), (status, result)


def replay_model(fuel, operations):
    """Returns a model after operations that are well-formed, or raises the error of `replay`."""
    if not 0 <= fuel <= 10000:
        raise InvalidFuel
    model = WorkspaceModel(fuel)
    for position, operation in enumerate(operations):
        try:
            model.execute(operation)
        except FuelError:
            raise InvalidOperation(position) from None
    return model


def make_operation(chance):
    """Makes an operation up, which is well-formed but may fail."""
    name = chance.choice(["a", "b", "c", "set"])
    kind = chance.choice(["load", "load", "unload", "pour", "run", "run", "run", "run", "undo", "undo", "redo"])
    if kind == "load":
        source = chance.choice(PROGRAMS)
        return ("load", chance.choice([name, name, name, name, "A"]), source)
    if kind == "unload":
        return ("unload", name)
    if kind == "pour":
        return ("pour", chance.choice([0, 1, 30, 200, 9000, 10001]))
    if kind == "run":
        arguments = tuple(chance.choice([0, 1, 3, 999999]) for _ in range(chance.choice([0, 1, 1, 1, 1, 2])))
        return ("run", name, arguments) + chance.choice([(1, 2), (1, 2), (1, 9), (1, 1), (8, 9), (2, 1), (1, 10)])
    return (kind,)


# Mostly of one parameter; the last two have faults.
PROGRAMS = [
    EXAMPLE,
    RIGHT,
    "def f(n) {\n  put B = B + n;\n  emit B;\n  loop n { put C = C + 1; emit C; }\n  return C;\n}\n",
    "def f(n) { emit n; call x = g() share 1/2 else 7; emit x; } def g() { put A = A + 1; loop A {} return A; }",
    "def f() { emit A; emit B; emit C; }",
    "def f(n) { emit m; }",
    "def f(n) {",
]
