"""Writes programs in canonical form."""

from fuelshare.program import read_program

INDENT = "  "


def format_source(source):
    """Returns the canonical form of a source."""
    return format_functions(read_program(source))


def format_functions(functions):
    """Returns the canonical form of a list of functions."""
    lines = []
    for function in functions:
        lines.extend(format_function(function))
    return "\n".join(lines)


def format_function(function):
    """Returns the lines of a function."""
    parameters = ", ".join([parameter.text for parameter in function.parameters])
    head = f"def {function.name.text}({parameters})"
    return [head + " {"] + format_block(function.body, 1) + ["}"]


def format_block(block, depth):
    """Returns the lines of the statements of a block, without its braces."""
    lines = []
    for statement in block:
        lines.extend(format_statement(statement, depth))
    return lines


def format_statement(statement, depth):
    """Returns the lines of a statement with its blocks."""
    indent = INDENT * depth
    write = HEADS[statement.keyword.kind]
    blocks = statement.blocks()
    if not blocks:
        return [indent + write(statement) + ";"]
    lines = [indent + write(statement) + " {"]
    lines.extend(format_block(blocks[0], depth + 1))
    for block in blocks[1:]:
        if block:
            lines.append(indent + "} else {")
            lines.extend(format_block(block, depth + 1))
    lines.append(indent + "}")
    return lines


def write_assignment(statement):
    """Returns the text of a `set` or `put`."""
    return f"{statement.keyword.text} {statement.target.text} = {write_expression(statement.expression)}"


def write_value(statement):
    """Returns the text of an `emit` or `return`."""
    return f"{statement.keyword.text} {write_expression(statement.expression)}"


def write_if(statement):
    """Returns the text of an `if` without its blocks."""
    left = write_expression(statement.left)
    right = write_expression(statement.right)
    return f"if {left} {statement.comparison} {right}"


def write_loop(statement):
    """Returns the text of a `loop` without its block."""
    return f"loop {write_expression(statement.times)}"


def write_call(statement):
    """Returns the text of a `call`."""
    arguments = ", ".join([write_expression(argument) for argument in statement.arguments])
    called = f"{statement.function.text}({arguments})"
    part, whole = statement.share
    fallback = write_expression(statement.fallback)
    return f"call {statement.target.text} = {called} share {part.text}/{whole.text} else {fallback}"


def write_expression(expression):
    """Returns the text of an expression."""
    words = [expression.terms[0].text]
    for operator, term in zip(expression.operators, expression.terms[1:]):
        words.extend([operator, term.text])
    return " ".join(words)


HEADS = {
    "set": write_assignment,
    "put": write_assignment,
    "emit": write_value,
    "return": write_value,
    "if": write_if,
    "loop": write_loop,
    "call": write_call,
}
