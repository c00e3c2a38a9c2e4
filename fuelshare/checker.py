"""Checks the names and the numbers in a program that fits the grammar."""

from fuelshare.errors import CheckFault
from fuelshare.nodes import list_locals, list_statements

MOST_FUNCTIONS = 12
MOST_PARAMETERS = 4
MOST_STATEMENTS = 60
MOST_BLOCKS = 8
LARGEST_SHARE = 9


def fail(reason, token):
    """Raises the error with this reason at a token."""
    raise CheckFault(reason, token.line, token.column)


def check_functions(functions):
    """Raises CheckFault for the first error: all headers come before all statements."""
    check_headers(functions)
    arities = {function.name.text: len(function.parameters) for function in functions}
    before = 0
    for function in functions:
        statements = list_statements(function.body)
        known = list_locals(function, statements)
        for place, (depth, statement) in enumerate(statements):
            check_limits(statement, before + place + 1, depth)
            check_statement(statement, arities, known)
        before += len(statements)


def check_headers(functions):
    """Checks the names and the parameters of all functions."""
    names = {}
    for function in functions:
        check_header_word(function.name, names, MOST_FUNCTIONS, "functions")
        parameters = {}
        for parameter in function.parameters:
            check_header_word(parameter, parameters, MOST_PARAMETERS, "parameters")


def check_header_word(token, earlier, most, reason):
    """Adds a word to the earlier ones of its kind unless there are too many or it is one of them."""
    if len(earlier) == most:
        fail(reason, token)
    if token.text in earlier:
        fail("duplicate", token)
    earlier[token.text] = True


def check_limits(statement, number, depth):
    """Checks the number of a statement in the source, from 1, and how many blocks enclose it."""
    if number > MOST_STATEMENTS:
        fail("statements", statement.keyword)
    if depth > MOST_BLOCKS:
        fail("nesting", statement.keyword)


def check_statement(statement, arities, known):
    """Checks the names and the share of a statement, but not its blocks."""
    if statement.keyword.kind == "call":
        check_call(statement, arities)
    for expression in statement.expressions():
        for term in expression.terms:
            if term.kind == "word" and term.text not in known:
                fail("undefined", term)


def check_call(statement, arities):
    """Checks the function and the share of a call, but not its expressions."""
    function = statement.function
    if function.text not in arities:
        fail("undefined", function)
    if len(statement.arguments) != arities[function.text]:
        fail("arguments", function)
    part, whole = statement.fraction()
    if not 1 <= part <= whole <= LARGEST_SHARE:
        fail("share", statement.share[0])
