"""Tells how much fuel sources need and what they do with less."""

from fuelshare.engine import Engine
from fuelshare.fullrun import measure_needs, run_fully
from fuelshare.limits import NO_CELLS, check_limit
from fuelshare.machine import trace
from fuelshare.nodes import list_statements
from fuelshare.program import read_functions


def full_run(source, arguments, *, cells=NO_CELLS):
    """Returns the tuple (result, cells, output, number of steps) of the full run."""
    engine = run_fully(read_functions(source, arguments, cells), arguments, cells)
    return (engine.result, engine.cells, tuple(engine.output), engine.executed)


def least_fuel(source, arguments, *, cells=NO_CELLS):
    """Returns the least fuel with which no call runs dry."""
    engine = run_fully(read_functions(source, arguments, cells), arguments, cells)
    return measure_needs(engine.calls, None)[0]


def call_needs(source, arguments, *, cells=NO_CELLS):
    """Returns a list of (function, need, use) of all calls of the full run."""
    engine = run_fully(read_functions(source, arguments, cells), arguments, cells)
    needs = measure_needs(engine.calls, None)
    return [(call.name, need, call.use()) for call, need in zip(engine.calls, needs)]


def share_effects(source, arguments, *, cells=NO_CELLS):
    """Returns the list of the least fuel for each `call` of the source, if its share were 1/1."""
    functions = read_functions(source, arguments, cells)
    engine = run_fully(functions, arguments, cells)
    return [measure_needs(engine.calls, site)[0] for site in list_sites(functions)]


def list_sites(functions):
    """Returns the list of all `call` statements in textual order."""
    sites = []
    for function in functions:
        for _, statement in list_statements(function.body):
            if statement.keyword.kind == "call":
                sites.append(statement)
    return sites


def find_outcome(functions, arguments, fuel, cells):
    """Returns the outcome of a run, the fuel left aside."""
    engine = Engine(functions, arguments, fuel, cells)
    engine.run_out()
    return engine.outcome()[:4]


def fuel_ranges(source, arguments, limit, *, cells=NO_CELLS):
    """Returns a list of (first, last, status, result, cells, output) for all fuel up to a limit."""
    functions = read_functions(source, arguments, cells)
    check_limit(limit)
    ranges = []
    for fuel in range(limit + 1):
        outcome = find_outcome(functions, arguments, fuel, cells)
        if ranges and ranges[-1][2:] == outcome:
            ranges[-1] = (ranges[-1][0], fuel) + outcome
        else:
            ranges.append((fuel, fuel) + outcome)
    return ranges


def first_dry(source, arguments, fuel, *, cells=NO_CELLS):
    """Returns (function, number of running calls) of the first call that runs dry, or None."""
    depth = 0
    for event in trace(source, arguments, fuel, cells=cells):
        if event[0] == "dry":
            return (event[1], depth)
        depth += 1 if event[0] == "call" else -1
    return None


def compare(first, second, arguments, limit, *, cells=NO_CELLS):
    """Returns the least fuel up to a limit with which the outcomes of two sources differ, or None."""
    former = read_functions(first, arguments, cells)
    latter = read_functions(second, arguments, cells)
    check_limit(limit)
    for fuel in range(limit + 1):
        expected = find_outcome(former, arguments, fuel, cells)
        if find_outcome(latter, arguments, fuel, cells) != expected:
            return fuel
    return None
