"""Writes and reads the texts of sessions."""

from fuelshare.errors import InvalidSession
from fuelshare.lexer import is_number
from fuelshare.limits import is_name
from fuelshare.workspace import replay


def format_session(fuel, operations):
    """Returns the text of a session."""
    replay(fuel, operations)
    return "\n".join([f"fuel {fuel}"] + [write_operation(operation) for operation in operations])


def parse_session(text):
    """Returns the tuple (fuel, operations) of the text of a session."""
    lines = text.split("\n")
    fuel = read_fuel(lines[0].split(" "))
    if fuel is None:
        raise InvalidSession(0)
    operations = []
    line = 1
    while line < len(lines):
        operation = read_operation(lines, line)
        if operation is None:
            raise InvalidSession(line)
        operations.append(operation)
        line += 1 + count_source_lines(operation)
    replay(fuel, operations)
    return (fuel, operations)


def count_source_lines(operation):
    """Returns the number of lines of the source that an operation loads, 0 if it loads none."""
    return operation[2].count("\n") + 1 if operation[0] == "load" else 0


def write_operation(operation):
    """Returns the line of an operation, followed by the lines of its source if it loads one."""
    match operation:
        case ("load", name, source):
            return f"load {name} {count_source_lines(operation)}\n{source}"
        case ("run", name, arguments, numerator, denominator):
            return " ".join(["run", name, f"{numerator}/{denominator}"] + [str(value) for value in arguments])
        case _:
            return " ".join([str(part) for part in operation])


def read_fuel(words):
    """Returns the amount of fuel that the words of the first line tell, or None if they are wrong."""
    if len(words) != 2 or words[0] != "fuel" or not is_numeral(words[1]):
        return None
    return int(words[1])


def read_operation(lines, line):
    """Returns the operation that begins at a line, or None if the words of the line are wrong."""
    match lines[line].split(" "):
        case ["undo"]:
            return ("undo",)
        case ["redo"]:
            return ("redo",)
        case ["unload", name]:
            return ("unload", name) if is_name(name) else None
        case ["pour", amount]:
            return ("pour", int(amount)) if is_numeral(amount) else None
        case ["load", name, many]:
            return read_load(name, many, lines, line)
        case ["run", name, share, *values]:
            return read_run(name, share.split("/"), values)
        case _:
            return None


def read_load(name, many, lines, line):
    """Returns the operation of a line `load` with these words, or None if they are wrong."""
    if not is_name(name) or not is_numeral(many):
        return None
    last = line + int(many)
    if last == line or last >= len(lines):
        return None
    return ("load", name, "\n".join(lines[line + 1:last + 1]))


def read_run(name, share, values):
    """Returns the operation of a line `run` with these words, or None if they are wrong."""
    numerals = share + values
    if not is_name(name) or len(share) != 2 or not all([is_numeral(numeral) for numeral in numerals]):
        return None
    numerator, denominator, *arguments = [int(numeral) for numeral in numerals]
    return ("run", name, tuple(arguments), numerator, denominator)


def is_numeral(word):
    """Returns whether a word is a number as sources have them."""
    return word.isdigit() and is_number(word)
