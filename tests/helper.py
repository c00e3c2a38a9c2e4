"""What several test files need: marks in sources, faults as tuples, and a second reading of the grammar."""

import functools
import re

from fuelshare.compiler import count_statements
from fuelshare.errors import CheckFault, SyntaxFault
from fuelshare.formatter import format_source

EXAMPLE = (
    "def main(n) { call r = half(n) share 1/2 else 9; emit r; return r + 1; } "
    "def half(x) { put A = x; return x; }"
)

KEYWORDS = "def set put emit return if else loop call share".split()
SIGNS = list("(){}=;,/<>+-*")

# One token of each kind, by its text.
SAMPLES = {"word": "x", "cell": "A", "number": "7"}
SAMPLES.update({text: text for text in KEYWORDS + SIGNS})

# The grammar of point 2; what is not a key here is a kind of token.
GRAMMAR = {
    "source": ["function functions"],
    "functions": ["", "function functions"],
    "function": ["def word ( words ) block"],
    "words": ["", "word morewords"],
    "morewords": ["", ", word morewords"],
    "block": ["{ statements }"],
    "statements": ["", "statement statements"],
    "statement": [
        "set word = expression ;",
        "put cell = expression ;",
        "emit expression ;",
        "return expression ;",
        "if expression comparison expression block",
        "if expression comparison expression block else block",
        "loop expression block",
        "call word = word ( expressions ) share number / number else expression ;",
    ],
    "comparison": ["<", "=", ">"],
    "expressions": ["", "expression moreexpressions"],
    "moreexpressions": ["", ", expression moreexpressions"],
    "expression": ["term terms"],
    "terms": ["", "operator term terms"],
    "operator": ["+", "-", "*"],
    "term": ["number", "word", "cell"],
}


@functools.lru_cache(maxsize=None)
def expand(stack):
    """Returns the stacks with a token on top, or empty, that a stack of symbols can become."""
    if not stack or stack[0] not in GRAMMAR:
        return frozenset([stack])
    found = set()
    for choice in GRAMMAR[stack[0]]:
        found |= expand(tuple(choice.split()) + stack[1:])
    return frozenset(found)


@functools.lru_cache(maxsize=None)
def after(stacks, kind):
    """Returns the stacks that remain behind a token of this kind."""
    found = set()
    for stack in stacks:
        if stack and stack[0] == kind:
            found |= expand(stack[1:])
    return frozenset(found)


def first_misfit(kinds):
    """Returns the place of the first token that does not fit, that of the end, or None."""
    stacks = expand(("source",))
    for place, kind in enumerate(kinds):
        stacks = after(stacks, kind)
        if not stacks:
            return place
    return None if () in stacks else len(kinds)


def place_of(source, offset):
    """Returns the line and the column of an offset in a source."""
    before = source[:offset]
    return before.count("\n"), offset - (before.rfind("\n") + 1)


def expected_fault(source):
    """Returns the line and column of the SyntaxFault of a source by this second reading, or None."""
    kinds = []
    offsets = []
    for match in re.finditer(r"[a-z]+|[0-9]+|[^ \n]", source):
        text = match.group()
        kind = kind_of(text)
        if kind is None:
            return place_of(source, match.start())
        kinds.append(kind)
        offsets.append(match.start())
    misfit = first_misfit(kinds)
    if misfit is None:
        return None
    if misfit == len(kinds):
        return source.count("\n") + 1, 0
    return place_of(source, offsets[misfit])


def kind_of(text):
    """Returns the kind of a token, or None if it is none."""
    if text in KEYWORDS or text in SIGNS:
        return text
    for kind, pattern in (("word", "[a-z]{1,8}"), ("cell", "[A-H]"), ("number", "0|[1-9][0-9]{0,5}")):
        if re.fullmatch(pattern, text):
            return kind
    return None


def marked(text):
    """Takes the mark @ out of a text; returns the source and the line and column of the mark."""
    assert text.count("@") == 1, text
    offset = text.index("@")
    return (text.replace("@", ""),) + place_of(text, offset)


def fault_by(function, source):
    """Returns the fault that a function raises as a tuple, or None."""
    try:
        function(source)
    except SyntaxFault as fault:
        return ("syntax", fault.line, fault.column)
    except CheckFault as fault:
        return (fault.reason, fault.line, fault.column)
    return None


def fault_of(source):
    """Returns the fault of a source, which must be the same for all functions, and when repeated."""
    fault = fault_by(format_source, source)
    assert fault_by(count_statements, source) == fault, source
    assert fault_by(format_source, source) == fault, source
    return fault


def lines_of(source):
    """Returns the canonical form of a source as a list of lines."""
    return format_source(source).split("\n")
