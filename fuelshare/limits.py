"""Checks what runs are given: arguments, cells, fuel and limits."""

from fuelshare.arithmetic import LARGEST_VALUE
from fuelshare.errors import InvalidArguments, InvalidCells, InvalidFuel, InvalidLimit

NO_CELLS = (0, 0, 0, 0, 0, 0, 0, 0)
MOST_FUEL = 10000
HIGHEST_LIMIT = 300


def is_within(given, most):
    """Returns whether something is an integer from 0 to the given one; True and False are none."""
    return isinstance(given, int) and not isinstance(given, bool) and 0 <= given <= most


def are_values(given, many):
    """Returns whether something is a tuple of so many values."""
    return isinstance(given, tuple) and len(given) == many and all([is_within(item, LARGEST_VALUE) for item in given])


def check_arguments(arguments, functions):
    """Raises InvalidArguments unless the arguments are values for the parameters of the first function."""
    if not are_values(arguments, len(functions[0].parameters)):
        raise InvalidArguments("the arguments are not a tuple of one value for each parameter")


def check_cells(cells):
    """Raises InvalidCells unless the cells are eight values."""
    if not are_values(cells, len(NO_CELLS)):
        raise InvalidCells("the cells are not a tuple of eight values")


def check_fuel(fuel):
    """Raises InvalidFuel unless it is an amount of fuel that a run may have."""
    if not is_within(fuel, MOST_FUEL):
        raise InvalidFuel(f"the fuel is not from 0 to {MOST_FUEL}")


def check_limit(limit):
    """Raises InvalidLimit unless it is a limit that the amounts of fuel may have."""
    if not is_within(limit, HIGHEST_LIMIT):
        raise InvalidLimit(f"the limit is not from 0 to {HIGHEST_LIMIT}")
