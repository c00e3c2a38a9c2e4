"""Executes the calls of a run, step by step."""

from fuelshare.arithmetic import evaluate, holds, replace_cell


class OpenBlock:
    """A block that is being executed: the place of its next statement, and how often it comes again."""

    def __init__(self, statements, place, rounds):
        self.statements = statements
        self.place = place
        self.rounds = rounds

    def at_end(self):
        """Returns whether no statement follows before the next iteration."""
        return self.place == len(self.statements)


class Frame:
    """A running call.

    `site` is the statement that it comes from, None for the first; `cells` and `length`
    are the cells and the length of the output at its begin.
    """

    def __init__(self, function, site, arguments, fuel, cells, length):
        self.function = function
        self.site = site
        self.known = {parameter.text: value for parameter, value in zip(function.parameters, arguments)}
        self.fuel = fuel
        self.cells = cells
        self.length = length
        self.opened = [OpenBlock(function.body, 0, 0)]

    def enter(self, statements):
        """Goes on with a block."""
        self.opened.append(OpenBlock(statements, 0, 0))

    def enter_loop(self, statements, rounds):
        """Goes on with a block that is executed so many times; each time is still to be paid."""
        self.opened.append(OpenBlock(statements, len(statements), rounds))

    def leave_blocks(self):
        """Leaves all blocks of which nothing is left to do."""
        while self.opened and self.opened[-1].at_end() and self.opened[-1].rounds == 0:
            self.opened.pop()


class Engine:
    """A run: its running calls, the outermost first, its cells and output, and all events so far."""

    def __init__(self, functions, arguments, fuel, cells):
        self.functions = {function.name.text: function for function in functions}
        self.frames = []
        self.cells = cells
        self.output = []
        self.events = []
        self.executed = 0
        self.status = "running"
        self.result = None
        self.rest = 0
        self.begin(functions[0], None, arguments, fuel)
        self.settle()

    def step(self):
        """Executes one step, unless the run has ended, and returns whether it goes on."""
        if self.frames:
            self.executed += 1
            frame = self.frames[-1]
            if frame.fuel == 0:
                self.run_dry()
            else:
                frame.fuel -= 1
                self.perform(frame)
            self.settle()
        return bool(self.frames)

    def run_out(self):
        """Executes all steps that are left."""
        while self.step():
            pass

    def run_for(self, steps):
        """Executes so many steps, or those that are left if they are fewer."""
        for _ in range(steps):
            if not self.step():
                return

    def cancel(self):
        """Ends the run without undoing anything."""
        self.status = "cancelled"
        self.rest = self.fuel_left()
        self.frames = []

    def fuel_left(self):
        """Returns the fuel of all running calls."""
        return sum([frame.fuel for frame in self.frames])

    def outcome(self):
        """Returns the outcome so far."""
        return (self.status, self.result, self.cells, tuple(self.output), self.rest)

    def perform(self, frame):
        """Does what the innermost call has paid for: a statement or the begin of an iteration."""
        block = frame.opened[-1]
        if block.at_end():
            block.rounds -= 1
            block.place = 0
        else:
            statement = block.statements[block.place]
            block.place += 1
            act = ACTIONS[statement.keyword.kind]
            act(self, frame, statement)

    def settle(self):
        """Does all that costs nothing until a call must pay."""
        while self.frames:
            frame = self.frames[-1]
            frame.leave_blocks()
            if frame.opened:
                return
            self.finish(0)

    def portion(self, site, fuel):
        """Returns how much of the fuel of its caller a new call receives."""
        part, whole = site.fraction()
        return part * fuel // whole

    def begin(self, function, site, arguments, fuel):
        """Begins a call."""
        self.frames.append(Frame(function, site, arguments, fuel, self.cells, len(self.output)))
        self.events.append(("call", function.name.text, fuel))

    def finish(self, value):
        """Ends the innermost call with a value."""
        frame = self.frames.pop()
        self.events.append(("return", frame.function.name.text, value, frame.fuel))
        if self.frames:
            caller = self.frames[-1]
            caller.fuel += frame.fuel
            caller.known[frame.site.target.text] = value
        else:
            self.status = "done"
            self.result = value
            self.rest = frame.fuel

    def run_dry(self):
        """Undoes the innermost call, which has no fuel left."""
        frame = self.frames.pop()
        self.events.append(("dry", frame.function.name.text))
        self.cells = frame.cells
        del self.output[frame.length:]
        if self.frames:
            caller = self.frames[-1]
            caller.known[frame.site.target.text] = self.read(caller, frame.site.fallback)
        else:
            self.status = "dry"

    def read(self, frame, expression):
        """Returns the value of an expression in a call."""
        return evaluate(expression, frame.known, self.cells)


def do_set(engine, frame, statement):
    """Executes `set`."""
    frame.known[statement.target.text] = engine.read(frame, statement.expression)


def do_put(engine, frame, statement):
    """Executes `put`."""
    value = engine.read(frame, statement.expression)
    engine.cells = replace_cell(engine.cells, statement.target.text, value)


def do_emit(engine, frame, statement):
    """Executes `emit`."""
    engine.output.append(engine.read(frame, statement.expression))


def do_return(engine, frame, statement):
    """Executes `return`."""
    engine.finish(engine.read(frame, statement.expression))


def do_if(engine, frame, statement):
    """Executes `if`, up to the block that it chooses."""
    left = engine.read(frame, statement.left)
    right = engine.read(frame, statement.right)
    chosen = statement.first if holds(left, statement.comparison, right) else statement.second
    frame.enter(chosen)


def do_loop(engine, frame, statement):
    """Executes `loop`, up to its first iteration."""
    frame.enter_loop(statement.body, engine.read(frame, statement.times))


def do_call(engine, frame, statement):
    """Executes `call`, up to the begin of the new call."""
    function = engine.functions[statement.function.text]
    arguments = [engine.read(frame, argument) for argument in statement.arguments]
    fuel = engine.portion(statement, frame.fuel)
    frame.fuel -= fuel
    engine.begin(function, statement, arguments, fuel)


ACTIONS = {
    "set": do_set,
    "put": do_put,
    "emit": do_emit,
    "return": do_return,
    "if": do_if,
    "loop": do_loop,
    "call": do_call,
}
