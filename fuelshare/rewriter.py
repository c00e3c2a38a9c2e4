"""Rewrites the statements of a function so that they do the same in full runs with less."""

from fuelshare.arithmetic import combine, holds
from fuelshare.formatter import format_block
from fuelshare.nodes import AssignStatement, CallStatement, Expression, IfStatement, LoopStatement, Token
from fuelshare.nodes import ValueStatement, list_locals, list_statements


class Scope:
    """What the statements of a function must know: dicts of words and of functions.

    `known` has all locals that are ever assigned, `used` those that stand in expressions,
    and `silent` the functions that change neither cells nor the output.
    """

    def __init__(self, known, used, silent):
        self.known = known
        self.used = used
        self.silent = silent


def rewrite_body(function, silent):
    """Returns the block of a function after one pass; another pass may find more to do."""
    statements = list_statements(function.body)
    used = {}
    for _, statement in statements:
        for expression in statement.expressions():
            used.update({term.text: True for term in expression.terms if term.kind == "word"})
    return rewrite_block(function.body, Scope(list_locals(function, statements), used, silent))


def rewrite_block(block, scope):
    """Returns a block with all its statements rewritten, up to the first `return`."""
    kept = []
    for statement in block:
        rewrite = REWRITERS[statement.keyword.kind]
        for part in rewrite(statement, scope):
            kept.append(part)
            if part.keyword.kind == "return":
                return kept
    return kept


def rewrite_set(statement, scope):
    """Returns the statements in the place of a `set`."""
    word = statement.target.text
    expression = rewrite_expression(statement.expression, scope)
    if word not in scope.used or is_single(expression, "word") and expression.terms[0].text == word:
        return []
    return [AssignStatement(statement.keyword, statement.target, expression)]


def rewrite_put(statement, scope):
    """Returns the statements in the place of a `put`."""
    return [AssignStatement(statement.keyword, statement.target, rewrite_expression(statement.expression, scope))]


def rewrite_value(statement, scope):
    """Returns the statements in the place of an `emit` or `return`."""
    return [ValueStatement(statement.keyword, rewrite_expression(statement.expression, scope))]


def rewrite_if(statement, scope):
    """Returns the statements in the place of an `if`."""
    left = rewrite_expression(statement.left, scope)
    right = rewrite_expression(statement.right, scope)
    first = rewrite_block(statement.first, scope)
    second = rewrite_block(statement.second, scope)
    if is_single(left, "number") and is_single(right, "number"):
        return first if holds(number_of(left), statement.comparison, number_of(right)) else second
    if format_block(first, 0) == format_block(second, 0):
        return first
    better = IfStatement(statement.keyword, left, statement.comparison, right)
    better.first = first
    better.second = second
    return [better]


def rewrite_loop(statement, scope):
    """Returns the statements in the place of a `loop`."""
    times = rewrite_expression(statement.times, scope)
    body = rewrite_block(statement.body, scope)
    if is_single(times, "number") and number_of(times) < 2:
        return body if number_of(times) == 1 else []
    if not body:
        return []
    better = LoopStatement(statement.keyword, times)
    better.body = body
    return [better]


def rewrite_call(statement, scope):
    """Returns the statements in the place of a `call`."""
    if statement.target.text not in scope.used and statement.function.text in scope.silent:
        return []
    arguments = [rewrite_expression(argument, scope) for argument in statement.arguments]
    fallback = rewrite_expression(statement.fallback, scope)
    share = statement.share
    return [CallStatement(statement.keyword, statement.target, statement.function, arguments, share, fallback)]


def rewrite_expression(expression, scope):
    """Returns an expression without locals that are never assigned, the numbers at its start put together."""
    terms = [rewrite_term(term, scope) for term in expression.terms]
    operators = list(expression.operators)
    while len(terms) > 1 and terms[0].kind == "number" and terms[1].kind == "number":
        value = combine(int(terms[0].text), operators[0], int(terms[1].text))
        terms = [number_token(value, terms[0])] + terms[2:]
        operators = operators[1:]
    return Expression(terms, operators)


def rewrite_term(term, scope):
    """Returns a term, or 0 for a local whose last assignment was taken away, since it would be undefined."""
    if term.kind == "word" and term.text not in scope.known:
        return number_token(0, term)
    return term


def number_token(value, place):
    """Returns the token of a number in the place of another token."""
    return Token("number", str(value), place.line, place.column)


def is_single(expression, kind):
    """Returns whether an expression is one term of the given kind."""
    return len(expression.terms) == 1 and expression.terms[0].kind == kind


def number_of(expression):
    """Returns the number that an expression consists of."""
    return int(expression.terms[0].text)


REWRITERS = {
    "set": rewrite_set,
    "put": rewrite_put,
    "emit": rewrite_value,
    "return": rewrite_value,
    "if": rewrite_if,
    "loop": rewrite_loop,
    "call": rewrite_call,
}
