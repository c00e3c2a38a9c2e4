"""The parts of a program: tokens, expressions, statements and functions."""

CELLS = "ABCDEFGH"


class Token:
    """A token of a source and where it begins.

    `kind` is "word", "cell", "number" or "end"; for keywords and signs it is the token itself.
    """

    def __init__(self, kind, text, line, column):
        self.kind = kind
        self.text = text
        self.line = line
        self.column = column


class Expression:
    """Terms, which are tokens, and the signs between them, one less."""

    def __init__(self, terms, operators):
        self.terms = terms
        self.operators = operators


class Statement:
    """What all statements have; `keyword` is the token that they start with."""

    def __init__(self, keyword):
        self.keyword = keyword

    def assigned(self):
        """Returns the word of the local that the statement assigns, or None."""
        return None

    def expressions(self):
        """Returns the expressions of the statement itself in textual order."""
        return []

    def blocks(self):
        """Returns the blocks of the statement in textual order."""
        return []


class AssignStatement(Statement):
    """`set`, where the target is a word, or `put`, where it is a cell."""

    def __init__(self, keyword, target, expression):
        Statement.__init__(self, keyword)
        self.target = target
        self.expression = expression

    def assigned(self):
        return self.target if self.target.kind == "word" else None

    def expressions(self):
        return [self.expression]


class ValueStatement(Statement):
    """`emit` or `return`."""

    def __init__(self, keyword, expression):
        Statement.__init__(self, keyword)
        self.expression = expression

    def expressions(self):
        return [self.expression]


class IfStatement(Statement):
    """`if`; without `else` the second block is empty."""

    def __init__(self, keyword, left, comparison, right):
        Statement.__init__(self, keyword)
        self.left = left
        self.comparison = comparison
        self.right = right
        self.first = []
        self.second = []

    def expressions(self):
        return [self.left, self.right]

    def blocks(self):
        return [self.first, self.second]


class LoopStatement(Statement):
    """`loop`."""

    def __init__(self, keyword, times):
        Statement.__init__(self, keyword)
        self.times = times
        self.body = []

    def expressions(self):
        return [self.times]

    def blocks(self):
        return [self.body]


class CallStatement(Statement):
    """`call`; the share is a tuple of the tokens of its two numbers."""

    def __init__(self, keyword, target, function, arguments, share, fallback):
        Statement.__init__(self, keyword)
        self.target = target
        self.function = function
        self.arguments = arguments
        self.share = share
        self.fallback = fallback

    def assigned(self):
        return self.target

    def expressions(self):
        return self.arguments + [self.fallback]

    def fraction(self):
        """Returns the two numbers of the share."""
        part, whole = self.share
        return int(part.text), int(whole.text)


class Function:
    """A function; its name and its parameters are tokens."""

    def __init__(self, name, parameters, body):
        self.name = name
        self.parameters = parameters
        self.body = body


def list_statements(block):
    """Returns a list of (number of enclosing blocks, statement) in textual order, nested ones too."""
    found = []
    # A list of what is to come, not recursion: the depth is still unchecked.
    waiting = [(1, statement) for statement in reversed(block)]
    while waiting:
        depth, statement = waiting.pop()
        found.append((depth, statement))
        for inner in reversed(statement.blocks()):
            waiting.extend([(depth + 1, nested) for nested in reversed(inner)])
    return found


def list_locals(function, statements):
    """Returns a dict of all locals of a function with these statements, listed as above."""
    known = {parameter.text: True for parameter in function.parameters}
    for _, statement in statements:
        target = statement.assigned()
        if target is not None:
            known[target.text] = True
    return known
