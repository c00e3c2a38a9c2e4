"""Optimizes sources."""

from fuelshare.analysis import least_fuel
from fuelshare.formatter import format_functions
from fuelshare.limits import NO_CELLS
from fuelshare.nodes import Function, list_statements
from fuelshare.program import read_program
from fuelshare.rewriter import rewrite_body


def optimize(source):
    """Returns a source in canonical form that does the same in full runs and needs no more fuel."""
    functions = read_program(source)
    former = None
    text = format_functions(functions)
    # What a pass takes away can make room for another pass; there is an end, since no pass adds anything.
    while text != former:
        former = text
        functions = rewrite_functions(functions)
        text = format_functions(functions)
    return text


def savings(source, arguments, *, cells=NO_CELLS):
    """Returns the tuple of the least fuel before and after optimizing."""
    before = least_fuel(source, arguments, cells=cells)
    return (before, least_fuel(optimize(source), arguments, cells=cells))


def rewrite_functions(functions):
    """Returns the functions that can be reached, with their blocks rewritten once."""
    called = {function.name.text: list_called(function) for function in functions}
    loud = [function.name.text for function in functions if is_loud(function)]
    silent = {name: True for name in called if not any([other in loud for other in list_reached(name, called)])}
    reached = list_reached(functions[0].name.text, called)
    better = []
    for function in functions:
        if function.name.text in reached:
            better.append(Function(function.name, function.parameters, rewrite_body(function, silent)))
    return better


def list_called(function):
    """Returns the names of all functions that a function calls."""
    statements = [statement for _, statement in list_statements(function.body)]
    return [statement.function.text for statement in statements if statement.keyword.kind == "call"]


def is_loud(function):
    """Returns whether a function itself has a `put` or an `emit`."""
    return any([statement.keyword.kind in ("put", "emit") for _, statement in list_statements(function.body)])


def list_reached(name, called):
    """Returns the names of a function and of all functions that it can reach by calls."""
    reached = [name]
    waiting = [name]
    while waiting:
        for other in called[waiting.pop()]:
            if other not in reached:
                reached.append(other)
                waiting.append(other)
    return reached
