"""Runs several programs on one tank of fuel."""

from fuelshare.engine import Engine
from fuelshare.errors import NoProcess
from fuelshare.limits import NO_CELLS, check_fuel, check_pour, check_share, check_steps, is_within
from fuelshare.program import read_functions


class Tank:
    """A tank of fuel and its processes, which are runs; a process has its place among them as its number."""

    def __init__(self, fuel):
        check_fuel(fuel)
        self.level = fuel
        self.received = fuel
        self.processes = []

    def pour(self, amount):
        """Adds fuel and returns the level."""
        check_pour(amount, self.level)
        self.level += amount
        self.received += amount
        return self.level

    def start_process(self, source, arguments, numerator, denominator, *, cells=NO_CELLS):
        """Starts a process with a share of the level and returns its number."""
        functions = read_functions(source, arguments, cells)
        check_share(numerator, denominator)
        fuel = numerator * self.level // denominator
        engine = Engine(functions, arguments, fuel, cells)
        self.level -= fuel
        self.processes.append(engine)
        self.collect(engine)
        return len(self.processes) - 1

    def turn(self, steps):
        """Lets each running process execute up to so many steps and returns those that ended."""
        check_steps(steps)
        ended = []
        for number in self.running():
            engine = self.processes[number]
            engine.run_for(steps)
            if engine.status != "running":
                self.collect(engine)
                ended.append(number)
        return ended

    def cancel(self, number):
        """Cancels a running process and returns the fuel that it gives back."""
        engine = self.find_process(number)
        if engine.status != "running":
            raise NoProcess(f"process {number} has ended")
        engine.cancel()
        self.collect(engine)
        return engine.rest

    def gauge(self):
        """Returns the level."""
        return self.level

    def held(self):
        """Returns a list of (process, fuel of all its calls) of all running processes."""
        return [(number, self.processes[number].fuel_left()) for number in self.running()]

    def running(self):
        """Returns the list of the numbers of all running processes."""
        return [number for number, engine in enumerate(self.processes) if engine.status == "running"]

    def burned(self):
        """Returns how much of all fuel that was ever in the tank was burned or lost."""
        return self.received - self.level - sum([fuel for _, fuel in self.held()])

    def statuses(self):
        """Returns the list of the statuses of all processes."""
        return [engine.status for engine in self.processes]

    def outcome(self, number):
        """Returns the tuple (status, result, cells, output) of a process."""
        return self.find_process(number).outcome()[:4]

    def find_process(self, number):
        """Returns the process with a number."""
        if not is_within(number, 0, len(self.processes) - 1):
            raise NoProcess("no process has this number")
        return self.processes[number]

    def collect(self, engine):
        """Takes the rest of a process back; it is 0 as long as the process runs."""
        self.level += engine.rest
