"""Parses tokens into functions."""

from fuelshare.errors import SyntaxFault
from fuelshare.nodes import AssignStatement, CallStatement, Expression, Function
from fuelshare.nodes import IfStatement, LoopStatement, ValueStatement

# In the encoding of a program, operators and comparisons are numbers: their places here.
OPERATORS = ("+", "-", "*")
COMPARISONS = ("<", "=", ">")
TERMS = ("number", "word", "cell")


class Cursor:
    """A place in a list of tokens, the last of which has the kind "end"."""

    def __init__(self, tokens):
        self.tokens = tokens
        self.place = 0

    def ahead(self):
        """Returns the kind of the token at this place."""
        return self.tokens[self.place].kind

    def take_any(self, kinds):
        """Returns the token at this place, which must have one of the kinds, and goes on."""
        token = self.tokens[self.place]
        if token.kind not in kinds:
            raise SyntaxFault(token.line, token.column)
        self.place += 1
        return token

    def take(self, kind):
        """Returns the token at this place, which must have this kind, and goes on."""
        return self.take_any((kind,))


def parse_tokens(tokens):
    """Returns the list of the functions of a source."""
    cursor = Cursor(tokens)
    functions = [parse_function(cursor)]
    while cursor.ahead() != "end":
        functions.append(parse_function(cursor))
    return functions


def parse_function(cursor):
    """Returns the function that begins here."""
    cursor.take("def")
    name = cursor.take("word")
    parameters = parse_list(cursor, parse_parameter)
    return Function(name, parameters, parse_block(cursor))


def parse_list(cursor, parse_item):
    """Returns the items of a list in parentheses, which may be empty."""
    cursor.take("(")
    items = []
    if cursor.ahead() != ")":
        items.append(parse_item(cursor))
        while cursor.ahead() == ",":
            cursor.take(",")
            items.append(parse_item(cursor))
    cursor.take(")")
    return items


def parse_parameter(cursor):
    """Returns the parameter here, a token."""
    return cursor.take("word")


def parse_block(cursor):
    """Returns the list of the statements of the block that begins here."""
    body = []
    cursor.take("{")
    # A list of the open blocks, not recursion: a source may nest deeper than Python.
    opened = [(body, None)]
    while opened:
        block, branch = opened[-1]
        if cursor.ahead() == "}":
            cursor.take("}")
            opened.pop()
            opened.extend(open_else(cursor, branch))
        else:
            statement = parse_statement(cursor)
            block.append(statement)
            opened.extend(open_first(cursor, statement))
    return body


def open_first(cursor, statement):
    """Returns the first block of a statement, and the `if` that may go on behind it, in a list.

    The list is empty if the statement has no block.
    """
    blocks = statement.blocks()
    if not blocks:
        return []
    cursor.take("{")
    branch = statement if statement.keyword.kind == "if" else None
    return [(blocks[0], branch)]


def open_else(cursor, branch):
    """Returns the second block of an `if` in a list as above, which is empty if none follows."""
    if branch is None or cursor.ahead() != "else":
        return []
    cursor.take("else")
    cursor.take("{")
    return [(branch.second, None)]


def parse_statement(cursor):
    """Returns the statement that begins here, without its blocks."""
    keyword = cursor.take_any(tuple(STATEMENTS))
    parse = STATEMENTS[keyword.kind]
    return parse(cursor, keyword)


def parse_set(cursor, keyword):
    """Returns a `set` statement."""
    return parse_assignment(cursor, keyword, "word")


def parse_put(cursor, keyword):
    """Returns a `put` statement."""
    return parse_assignment(cursor, keyword, "cell")


def parse_assignment(cursor, keyword, kind):
    """Returns an assignment to a target of the given kind."""
    target = cursor.take(kind)
    cursor.take("=")
    expression = parse_expression(cursor)
    cursor.take(";")
    return AssignStatement(keyword, target, expression)


def parse_value(cursor, keyword):
    """Returns an `emit` or `return` statement."""
    expression = parse_expression(cursor)
    cursor.take(";")
    return ValueStatement(keyword, expression)


def parse_if(cursor, keyword):
    """Returns an `if` statement, up to its first block."""
    left = parse_expression(cursor)
    comparison = cursor.take_any(COMPARISONS)
    right = parse_expression(cursor)
    return IfStatement(keyword, left, comparison.text, right)


def parse_loop(cursor, keyword):
    """Returns a `loop` statement, up to its block."""
    return LoopStatement(keyword, parse_expression(cursor))


def parse_call(cursor, keyword):
    """Returns a `call` statement."""
    target = cursor.take("word")
    cursor.take("=")
    function = cursor.take("word")
    arguments = parse_list(cursor, parse_expression)
    share = parse_share(cursor)
    cursor.take("else")
    fallback = parse_expression(cursor)
    cursor.take(";")
    return CallStatement(keyword, target, function, arguments, share, fallback)


def parse_share(cursor):
    """Returns the two numbers of a share, tokens."""
    cursor.take("share")
    part = cursor.take("number")
    cursor.take("/")
    return part, cursor.take("number")


def parse_expression(cursor):
    """Returns the expression that begins here."""
    terms = [cursor.take_any(TERMS)]
    operators = []
    while cursor.ahead() in OPERATORS:
        operators.append(cursor.take_any(OPERATORS).text)
        terms.append(cursor.take_any(TERMS))
    return Expression(terms, operators)


STATEMENTS = {
    "set": parse_set,
    "put": parse_put,
    "emit": parse_value,
    "return": parse_value,
    "if": parse_if,
    "loop": parse_loop,
    "call": parse_call,
}
