"""Runs sources, at once or step by step."""

from fuelshare.engine import Engine
from fuelshare.limits import NO_CELLS, check_arguments, check_cells, check_fuel
from fuelshare.program import read_program


def start_engine(source, arguments, fuel, cells):
    """Returns a run at its beginning, after checking all that it is given."""
    functions = read_program(source)
    check_arguments(arguments, functions)
    check_fuel(fuel)
    check_cells(cells)
    return Engine(functions, arguments, fuel, cells)


def run(source, arguments, fuel, *, cells=NO_CELLS):
    """Returns the outcome of a run: (status, result, cells, output, fuel left)."""
    engine = start_engine(source, arguments, fuel, cells)
    engine.run_out()
    return engine.outcome()


def trace(source, arguments, fuel, *, cells=NO_CELLS):
    """Returns the list of all events of a run."""
    engine = start_engine(source, arguments, fuel, cells)
    engine.run_out()
    return engine.events


class Stepper:
    """A run that is executed step by step."""

    def __init__(self, source, arguments, fuel, *, cells=NO_CELLS):
        self.engine = start_engine(source, arguments, fuel, cells)

    def step(self):
        """Executes one step, unless the run has ended, and returns whether it goes on."""
        return self.engine.step()

    def depth(self):
        """Returns the number of running calls."""
        return len(self.engine.frames)

    def fuels(self):
        """Returns the list of the fuel left in all running calls, the outermost first."""
        return [frame.fuel for frame in self.engine.frames]

    def steps(self):
        """Returns the number of executed steps."""
        return self.engine.executed

    def outcome(self):
        """Returns the outcome so far."""
        return self.engine.outcome()
