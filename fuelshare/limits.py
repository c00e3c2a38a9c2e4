"""Checks what the package is given: fuel, arguments, cells, limits, shares, steps and names."""

from fuelshare.arithmetic import LARGEST_VALUE
from fuelshare.checker import LARGEST_SHARE
from fuelshare.errors import InvalidArguments, InvalidCells, InvalidFuel, InvalidLimit
from fuelshare.errors import InvalidName, InvalidShare, InvalidSteps
from fuelshare.lexer import LETTERS, LONGEST_WORD

NO_CELLS = (0, 0, 0, 0, 0, 0, 0, 0)
MOST_FUEL = 10000
HIGHEST_LIMIT = 300
LONGEST_TURN = 1000


def is_integer(given):
    """Returns whether something is an integer; True and False are none."""
    return isinstance(given, int) and not isinstance(given, bool)


def is_within(given, least, most):
    """Returns whether something is an integer between two others, these included."""
    return is_integer(given) and least <= given <= most


def are_values(given, many):
    """Returns whether something is a tuple of so many values."""
    if not isinstance(given, tuple) or len(given) != many:
        return False
    return all([is_within(item, 0, LARGEST_VALUE) for item in given])


def is_name(given):
    """Returns whether something can name a program or a snapshot; keywords can."""
    if not isinstance(given, str):
        return False
    return 1 <= len(given) <= LONGEST_WORD and all([letter in LETTERS for letter in given])


def check_arguments(arguments, functions):
    """Raises InvalidArguments unless the arguments are values for the parameters of the first function."""
    if not are_values(arguments, len(functions[0].parameters)):
        raise InvalidArguments("the arguments are not a tuple of one value for each parameter")


def check_cells(cells):
    """Raises InvalidCells unless the cells are eight values."""
    if not are_values(cells, len(NO_CELLS)):
        raise InvalidCells("the cells are not a tuple of eight values")


def check_fuel(fuel):
    """Raises InvalidFuel unless it is an amount of fuel that a run may have."""
    if not is_within(fuel, 0, MOST_FUEL):
        raise InvalidFuel(f"the fuel is not from 0 to {MOST_FUEL}")


def check_pour(amount, level):
    """Raises InvalidFuel unless a tank with this level can take the amount."""
    check_fuel(amount)
    if level + amount > MOST_FUEL:
        raise InvalidFuel(f"the level would exceed {MOST_FUEL}")


def check_limit(limit):
    """Raises InvalidLimit unless it is a limit that the amounts of fuel may have."""
    if not is_within(limit, 0, HIGHEST_LIMIT):
        raise InvalidLimit(f"the limit is not from 0 to {HIGHEST_LIMIT}")


def check_share(numerator, denominator):
    """Raises InvalidShare unless the two numbers are those of a share."""
    if not is_within(denominator, 1, LARGEST_SHARE) or not is_within(numerator, 1, denominator):
        raise InvalidShare(f"the share is not p/q with p from 1 to q and q from 1 to {LARGEST_SHARE}")


def check_steps(steps):
    """Raises InvalidSteps unless it is a number of steps that a turn may have."""
    if not is_within(steps, 1, LONGEST_TURN):
        raise InvalidSteps(f"the number of steps is not from 1 to {LONGEST_TURN}")


def check_name(name):
    """Raises InvalidName unless it can name a program or a snapshot."""
    if not is_name(name):
        raise InvalidName(f"the name is not one to {LONGEST_WORD} letters a to z")
