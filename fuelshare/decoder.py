"""Reads functions from lists of bytes."""

from fuelshare.arithmetic import LARGEST_VALUE
from fuelshare.checker import MOST_STATEMENTS
from fuelshare.errors import InvalidCode
from fuelshare.lexer import KEYWORDS, LETTERS, LONGEST_WORD
from fuelshare.limits import is_within
from fuelshare.nodes import CELLS, AssignStatement, CallStatement, Expression, Function
from fuelshare.nodes import IfStatement, LoopStatement, Token, ValueStatement
from fuelshare.parser import COMPARISONS, OPERATORS

FIRST_BYTE = 70
LARGEST_BYTE = 255
# The code of a statement is its place here.
STATEMENT_WORDS = ("set", "put", "emit", "return", "if", "loop", "call")
NUMBER_TERM = 0
WORD_TERM = 9


class ByteReader:
    """A place in a list of bytes."""

    def __init__(self, code):
        self.code = code
        self.offset = 0

    def take(self, least, most):
        """Returns the byte here, which must be between two others, these included, and goes on."""
        byte = self.code[self.offset] if self.offset < len(self.code) else None
        if not is_within(byte, least, most):
            raise InvalidCode(self.offset)
        self.offset += 1
        return byte


def checksum(code):
    """Returns the checksum behind these bytes."""
    return sum(code) % (LARGEST_BYTE + 1)


def decode_functions(code):
    """Returns the functions of a whole list of bytes, or raises InvalidCode; they are still unchecked."""
    reader = ByteReader(code)
    reader.take(FIRST_BYTE, FIRST_BYTE)
    many = reader.take(1, LARGEST_BYTE)
    functions = [decode_function(reader) for _ in range(many)]
    expected = checksum(code[:reader.offset])
    reader.take(expected, expected)
    if reader.offset < len(code):
        raise InvalidCode(reader.offset)
    return functions


def decode_function(reader):
    """Returns the function that begins here."""
    name = decode_word(reader)
    many = reader.take(0, LARGEST_BYTE)
    parameters = [decode_word(reader) for _ in range(many)]
    return Function(name, parameters, decode_block(reader))


def make_token(kind, text):
    """Returns a token that stands nowhere."""
    return Token(kind, text, 0, 0)


def decode_word(reader):
    """Returns the word that begins here, a token."""
    begin = reader.offset
    length = reader.take(1, LONGEST_WORD)
    word = "".join([LETTERS[reader.take(0, len(LETTERS) - 1)] for _ in range(length)])
    if word in KEYWORDS:
        raise InvalidCode(begin)
    return make_token("word", word)


def decode_cell(reader):
    """Returns the cell here, a token."""
    return make_token("cell", CELLS[reader.take(0, len(CELLS) - 1)])


def decode_number(reader):
    """Returns the number that begins here, a token."""
    begin = reader.offset
    value = 0
    for _ in range(3):
        value = value * (LARGEST_BYTE + 1) + reader.take(0, LARGEST_BYTE)
    if value > LARGEST_VALUE:
        raise InvalidCode(begin)
    return make_token("number", str(value))


def decode_block(reader):
    """Returns the list of the statements of the block that begins here."""
    body = []
    # A list of blocks and how many statements are left of each, None if that is still to be read;
    # not recursion, since the depth is still unchecked.
    waiting = [(body, None)]
    while waiting:
        block, left = waiting.pop()
        if left is None:
            left = reader.take(0, MOST_STATEMENTS)
        if left > 0:
            statement = decode_statement(reader)
            block.append(statement)
            waiting.append((block, left - 1))
            waiting.extend([(inner, None) for inner in reversed(statement.blocks())])
    return body


def decode_statement(reader):
    """Returns the statement that begins here, without its blocks."""
    word = STATEMENT_WORDS[reader.take(0, len(STATEMENT_WORDS) - 1)]
    decode_parts = PARTS[word]
    return decode_parts(reader, make_token(word, word))


def decode_set(reader, keyword):
    """Returns a `set` statement."""
    target = decode_word(reader)
    return AssignStatement(keyword, target, decode_expression(reader))


def decode_put(reader, keyword):
    """Returns a `put` statement."""
    target = decode_cell(reader)
    return AssignStatement(keyword, target, decode_expression(reader))


def decode_value(reader, keyword):
    """Returns an `emit` or `return` statement."""
    return ValueStatement(keyword, decode_expression(reader))


def decode_if(reader, keyword):
    """Returns an `if` statement, up to its first block."""
    left = decode_expression(reader)
    comparison = COMPARISONS[reader.take(0, len(COMPARISONS) - 1)]
    return IfStatement(keyword, left, comparison, decode_expression(reader))


def decode_loop(reader, keyword):
    """Returns a `loop` statement, up to its block."""
    return LoopStatement(keyword, decode_expression(reader))


def decode_call(reader, keyword):
    """Returns a `call` statement."""
    target = decode_word(reader)
    function = decode_word(reader)
    many = reader.take(0, LARGEST_BYTE)
    arguments = [decode_expression(reader) for _ in range(many)]
    part = make_token("number", str(reader.take(0, LARGEST_BYTE)))
    whole = make_token("number", str(reader.take(0, LARGEST_BYTE)))
    return CallStatement(keyword, target, function, arguments, (part, whole), decode_expression(reader))


def decode_expression(reader):
    """Returns the expression that begins here."""
    # Numbers above 255 cannot be read, although `encode` writes them: they are no bytes.
    length = reader.take(1, LARGEST_BYTE)
    reader.take(0, 0)
    terms = [decode_term(reader)]
    operators = []
    for _ in range(length - 1):
        operators.append(OPERATORS[reader.take(0, len(OPERATORS) - 1)])
        terms.append(decode_term(reader))
    return Expression(terms, operators)


def decode_term(reader):
    """Returns the term that begins here, a token."""
    code = reader.take(NUMBER_TERM, WORD_TERM)
    if code == NUMBER_TERM:
        return decode_number(reader)
    if code == WORD_TERM:
        return decode_word(reader)
    return make_token("cell", CELLS[code - 1])


PARTS = {
    "set": decode_set,
    "put": decode_put,
    "emit": decode_value,
    "return": decode_value,
    "if": decode_if,
    "loop": decode_loop,
    "call": decode_call,
}
