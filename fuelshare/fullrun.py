"""Full runs, in which no call runs dry, and the fuel that their calls need."""

from fuelshare.engine import Engine
from fuelshare.errors import Endless

MOST_STEPS = 5000


class FullCall:
    """A call of a full run.

    `caller` is the place of the call that it comes from, `began` and `ended` are
    numbers of steps of the run.
    """

    def __init__(self, name, site, caller, began):
        self.name = name
        self.site = site
        self.caller = caller
        self.began = began
        self.ended = began

    def use(self):
        """Returns the fuel that the call uses, with that of the calls within it."""
        return self.ended - self.began


class FullRun(Engine):
    """A run that keeps a list of all its calls in the order in which they begin."""

    def __init__(self, functions, arguments, cells):
        self.calls = []
        self.places = []
        Engine.__init__(self, functions, arguments, MOST_STEPS, cells)

    def portion(self, site, fuel):
        """Returns all fuel of the caller: so no call runs dry before all steps are used up."""
        return fuel

    def begin(self, function, site, arguments, fuel):
        """Begins a call and adds it to the list."""
        caller = self.places[-1] if self.places else None
        self.places.append(len(self.calls))
        self.calls.append(FullCall(function.name.text, site, caller, self.executed))
        super().begin(function, site, arguments, fuel)

    def finish(self, value):
        """Ends the innermost call with a value."""
        call = self.calls[self.places.pop()]
        call.ended = self.executed
        super().finish(value)


def run_fully(functions, arguments, cells):
    """Returns the full run at its end, or raises Endless if it takes too many steps."""
    engine = FullRun(functions, arguments, cells)
    while engine.frames:
        if engine.executed == MOST_STEPS:
            raise Endless(f"the full run takes more than {MOST_STEPS} steps")
        engine.step()
    return engine


def measure_needs(calls, eased):
    """Returns the list of the needs of all calls if the shares of the statement `eased` were 1/1."""
    needs = [call.use() for call in calls]
    # A call begins after its caller, so all calls within it have been measured before it.
    for place in reversed(range(len(calls))):
        call = calls[place]
        if call.caller is not None:
            part, whole = (1, 1) if call.site == eased else call.site.fraction()
            spent = call.began - calls[call.caller].began
            held = (needs[place] * whole + part - 1) // part
            needs[call.caller] = max(needs[call.caller], spent + held)
    return needs
