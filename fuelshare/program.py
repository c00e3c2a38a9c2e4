"""Reads sources into checked programs."""

from fuelshare.checker import check_functions
from fuelshare.lexer import read_tokens
from fuelshare.limits import check_arguments, check_cells
from fuelshare.parser import parse_tokens


def read_program(source):
    """Returns the list of the functions of a source, or raises SyntaxFault or CheckFault."""
    functions = parse_tokens(read_tokens(source))
    check_functions(functions)
    return functions


def read_functions(source, arguments, cells):
    """Returns the functions of a source, after checking what their runs are given."""
    functions = read_program(source)
    check_arguments(arguments, functions)
    check_cells(cells)
    return functions
