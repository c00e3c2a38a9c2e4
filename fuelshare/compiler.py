"""Compiles sources."""

from fuelshare.nodes import list_statements
from fuelshare.program import read_program


def count_statements(source):
    """Returns a list of (function, number of statements in it, nested ones too)."""
    functions = read_program(source)
    return [(function.name.text, len(list_statements(function.body))) for function in functions]
