"""Reads sources into checked programs."""

from fuelshare.checker import check_functions
from fuelshare.lexer import read_tokens
from fuelshare.parser import parse_tokens


def read_program(source):
    """Returns the list of the functions of a source, or raises SyntaxFault or CheckFault."""
    functions = parse_tokens(read_tokens(source))
    check_functions(functions)
    return functions
