"""Turns sources into lists of bytes and back."""

from fuelshare.decoder import FIRST_BYTE, LARGEST_BYTE, NUMBER_TERM, STATEMENT_WORDS, WORD_TERM
from fuelshare.decoder import checksum, decode_functions
from fuelshare.errors import InvalidCode
from fuelshare.formatter import format_functions
from fuelshare.lexer import LETTERS
from fuelshare.nodes import CELLS
from fuelshare.parser import COMPARISONS, OPERATORS
from fuelshare.program import read_program


def encode(source):
    """Returns the list of the bytes of a source."""
    functions = read_program(source)
    code = [FIRST_BYTE, len(functions)]
    for function in functions:
        code.extend(encode_function(function))
    code.append(checksum(code))
    return code


def decode(code):
    """Returns the canonical source of a list of bytes."""
    if not isinstance(code, list):
        raise InvalidCode(0)
    source = format_functions(decode_functions(code))
    # Only now, since the errors tell places in this source.
    read_program(source)
    return source


def encode_function(function):
    """Returns the bytes of a function."""
    code = encode_word(function.name) + [len(function.parameters)]
    for parameter in function.parameters:
        code.extend(encode_word(parameter))
    return code + encode_block(function.body)


def encode_word(token):
    """Returns the bytes of a word."""
    return [len(token.text)] + [LETTERS.index(letter) for letter in token.text]


def encode_block(block):
    """Returns the bytes of a block."""
    code = [len(block)]
    for statement in block:
        encode_parts = PARTS[statement.keyword.kind]
        code.append(STATEMENT_WORDS.index(statement.keyword.kind))
        code.extend(encode_parts(statement))
        for inner in statement.blocks():
            code.extend(encode_block(inner))
    return code


def encode_set(statement):
    """Returns the bytes of a `set` behind its code."""
    return encode_word(statement.target) + encode_expression(statement.expression)


def encode_put(statement):
    """Returns the bytes of a `put` behind its code."""
    return [CELLS.index(statement.target.text)] + encode_expression(statement.expression)


def encode_value(statement):
    """Returns the bytes of an `emit` or `return` behind its code."""
    return encode_expression(statement.expression)


def encode_if(statement):
    """Returns the bytes of an `if` behind its code and before its blocks."""
    comparison = COMPARISONS.index(statement.comparison)
    return encode_expression(statement.left) + [comparison] + encode_expression(statement.right)


def encode_loop(statement):
    """Returns the bytes of a `loop` behind its code and before its block."""
    return encode_expression(statement.times)


def encode_call(statement):
    """Returns the bytes of a `call` behind its code."""
    code = encode_word(statement.target) + encode_word(statement.function) + [len(statement.arguments)]
    for argument in statement.arguments:
        code.extend(encode_expression(argument))
    return code + list(statement.fraction()) + encode_expression(statement.fallback)


def encode_expression(expression):
    """Returns the bytes of an expression."""
    code = [len(expression.terms)]
    # The first term has no operator before it, but its byte is that of the first operator.
    for operator, term in zip([OPERATORS[0]] + expression.operators, expression.terms):
        code.append(OPERATORS.index(operator))
        code.extend(encode_term(term))
    return code


def encode_term(term):
    """Returns the bytes of a term."""
    if term.kind == "number":
        return [NUMBER_TERM] + encode_number(int(term.text))
    if term.kind == "cell":
        return [CELLS.index(term.text) + 1]
    return [WORD_TERM] + encode_word(term)


def encode_number(value):
    """Returns the three bytes of a number, the highest first."""
    base = LARGEST_BYTE + 1
    return [value // base // base, value // base % base, value % base]


PARTS = {
    "set": encode_set,
    "put": encode_put,
    "emit": encode_value,
    "return": encode_value,
    "if": encode_if,
    "loop": encode_loop,
    "call": encode_call,
}
