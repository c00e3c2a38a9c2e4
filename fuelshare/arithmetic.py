"""Values: what operators and comparisons make of them, and the values of expressions."""

from fuelshare.nodes import CELLS

LARGEST_VALUE = 999999


def combine(left, operator, right):
    """Returns the value of an operation."""
    if operator == "+":
        value = left + right
    elif operator == "-":
        value = left - right
    else:
        value = left * right
    return value % (LARGEST_VALUE + 1)


def holds(left, comparison, right):
    """Returns whether a comparison of two values holds."""
    if comparison == "<":
        return left < right
    if comparison == ">":
        return left > right
    return left == right


def evaluate(expression, known, cells):
    """Returns the value of an expression; a local that is not among the known ones is 0."""
    value = evaluate_term(expression.terms[0], known, cells)
    for operator, term in zip(expression.operators, expression.terms[1:]):
        value = combine(value, operator, evaluate_term(term, known, cells))
    return value


def evaluate_term(term, known, cells):
    """Returns the value of a term."""
    if term.kind == "number":
        return int(term.text)
    if term.kind == "cell":
        return cells[CELLS.index(term.text)]
    return known.get(term.text, 0)


def replace_cell(cells, cell, value):
    """Returns the cells with another value in one of them."""
    place = CELLS.index(cell)
    return cells[:place] + (value,) + cells[place + 1:]
