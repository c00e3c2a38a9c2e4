"""Programs, cells, a tank and a log that operations change, with undo and snapshots."""

from fuelshare.engine import Engine
from fuelshare.errors import FuelError, InvalidOperation, UnknownName
from fuelshare.limits import NO_CELLS, check_fuel, check_name, check_pour, check_share
from fuelshare.program import read_functions, read_program

# The words of all operations, and how many arguments they take.
ARGUMENTS = {"load": 2, "unload": 1, "pour": 1, "run": 4, "undo": 0, "redo": 0}


class Moment:
    """What a workspace is like behind an operation, and what that operation adds to the log.

    It is never modified, so workspaces and their snapshots can share it.
    """

    def __init__(self, word, sources, level, cells, output):
        self.word = word
        self.sources = sources
        self.level = level
        self.cells = cells
        self.output = output


class Workspace:
    """Programs, cells, a tank and a log.

    `past` has the moments from the creation up to now, and `future` those that `redo` brings back, the next at its end.
    """

    def __init__(self, fuel):
        check_fuel(fuel)
        self.past = [Moment("", {}, fuel, NO_CELLS, ())]
        self.future = []
        self.snapshots = {}

    def load_program(self, name, source):
        """Loads a program."""
        check_name(name)
        read_program(source)
        now = self.now()
        sources = dict(now.sources)
        sources[name] = source
        self.go_on(Moment("load", sources, now.level, now.cells, ()))

    def unload(self, name):
        """Removes a program."""
        now = self.now()
        check_known(name, now.sources)
        sources = {other: source for other, source in now.sources.items() if other != name}
        self.go_on(Moment("unload", sources, now.level, now.cells, ()))

    def pour(self, amount):
        """Adds fuel and returns the level."""
        now = self.now()
        check_pour(amount, now.level)
        self.go_on(Moment("pour", now.sources, now.level + amount, now.cells, ()))
        return self.gauge()

    def run_program(self, name, arguments, numerator, denominator):
        """Runs a program with a share of the level and returns the tuple (status, result)."""
        now = self.now()
        check_known(name, now.sources)
        functions = read_functions(now.sources[name], arguments, now.cells)
        check_share(numerator, denominator)
        fuel = numerator * now.level // denominator
        engine = Engine(functions, arguments, fuel, now.cells)
        engine.run_out()
        # A run that runs dry has the cells of its beginning, no output and no rest.
        status, result, cells, output, rest = engine.outcome()
        self.go_on(Moment("run", now.sources, now.level - fuel + rest, cells, output))
        return (status, result)

    def undo(self):
        """Undoes the last operation in effect and returns whether there was one."""
        if len(self.past) == 1:
            return False
        self.future.append(self.past.pop())
        return True

    def redo(self):
        """Repeats the operation that was undone last and returns whether there was one."""
        if not self.future:
            return False
        self.past.append(self.future.pop())
        return True

    def programs(self):
        """Returns the list of (name, source) of all programs, sorted by name."""
        sources = self.now().sources
        return [(name, sources[name]) for name in sorted(sources)]

    def gauge(self):
        """Returns the level."""
        return self.now().level

    def cell_values(self):
        """Returns the cells."""
        return self.now().cells

    def log(self):
        """Returns the list of all logged values."""
        return [value for moment in self.past for value in moment.output]

    def operations(self):
        """Returns the list of the words of all operations in effect."""
        return [moment.word for moment in self.past[1:]]

    def save(self, name):
        """Saves the complete state under a name."""
        check_name(name)
        self.snapshots[name] = self.complete_state()

    def restore(self, name):
        """Brings a saved state back."""
        check_known(name, self.snapshots)
        self.bring_back(self.snapshots[name])

    def batch(self, operations):
        """Executes operations, all or none, and returns the list of their results."""
        check_list(operations)
        for position, operation in enumerate(operations):
            check_operation(operation, position)
        former = self.complete_state()
        try:
            return [execute(self, operation) for operation in operations]
        except FuelError:
            self.bring_back(former)
            raise

    def now(self):
        """Returns the present moment."""
        return self.past[-1]

    def go_on(self, moment):
        """Makes a moment the present one, behind which nothing can be repeated."""
        self.past.append(moment)
        self.future = []

    def complete_state(self):
        """Returns the complete state, in lists of its own."""
        return (list(self.past), list(self.future))

    def bring_back(self, state):
        """Brings a complete state back, which may be needed again."""
        past, future = state
        self.past = list(past)
        self.future = list(future)


def replay(fuel, operations):
    """Returns a new workspace after a list of operations."""
    workspace = Workspace(fuel)
    check_list(operations)
    for position, operation in enumerate(operations):
        check_operation(operation, position)
        try:
            execute(workspace, operation)
        except FuelError:
            raise InvalidOperation(position) from None
    return workspace


def execute(workspace, operation):
    """Executes a well-formed operation and returns its result."""
    match operation:
        case ("load", name, source):
            return workspace.load_program(name, source)
        case ("unload", name):
            return workspace.unload(name)
        case ("pour", amount):
            return workspace.pour(amount)
        case ("run", name, arguments, numerator, denominator):
            return workspace.run_program(name, arguments, numerator, denominator)
        case ("undo",):
            return workspace.undo()
        case _:
            return workspace.redo()


def check_known(name, known):
    """Raises UnknownName unless a name is a key of a dict."""
    # Other values than strings may be lists, which no dict can look up.
    if not isinstance(name, str) or name not in known:
        raise UnknownName("nothing has this name")


def check_list(operations):
    """Raises InvalidOperation unless the operations are a list, whatever its entries."""
    if not isinstance(operations, list):
        raise InvalidOperation(0)


def check_operation(entry, position):
    """Raises InvalidOperation unless an entry is the word of an operation with as many arguments as it takes."""
    if not isinstance(entry, tuple) or not entry or not isinstance(entry[0], str):
        raise InvalidOperation(position)
    word = entry[0]
    # A source is always a string; all other arguments are looked at when the operation is executed.
    if ARGUMENTS.get(word) != len(entry) - 1 or word == "load" and not isinstance(entry[2], str):
        raise InvalidOperation(position)
