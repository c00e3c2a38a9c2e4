"""The interface: its names, where they are defined, and their arguments."""

import importlib
import inspect
import pathlib
import unittest

from fuelshare import workspace
from tests.helper import NO_CELLS

# Functions and classes of each file with their arguments; `*cells` is the keyword with its default.
FUNCTIONS = {
    "formatter": {"format_source": "source"},
    "compiler": {"count_statements": "source"},
    "machine": {
        "run": "source arguments fuel *cells", "trace": "source arguments fuel *cells",
        "Stepper": "source arguments fuel *cells",
    },
    "analysis": {
        "full_run": "source arguments *cells", "least_fuel": "source arguments *cells",
        "call_needs": "source arguments *cells", "share_effects": "source arguments *cells",
        "fuel_ranges": "source arguments limit *cells", "first_dry": "source arguments fuel *cells",
        "compare": "first second arguments limit *cells",
    },
    "optimizer": {"optimize": "source", "savings": "source arguments *cells"},
    "tank": {"Tank": "fuel"},
    "encoding": {"encode": "source", "decode": "code"},
    "workspace": {"Workspace": "fuel", "replay": "fuel operations"},
    "session": {"format_session": "fuel operations", "parse_session": "text"},
}

METHODS = {
    ("machine", "Stepper"): {"step": "", "depth": "", "fuels": "", "steps": "", "outcome": ""},
    ("tank", "Tank"): {
        "pour": "amount", "start_process": "source arguments numerator denominator *cells", "turn": "steps",
        "cancel": "number", "gauge": "", "held": "", "running": "", "burned": "", "statuses": "", "outcome": "number",
    },
    ("workspace", "Workspace"): {
        "load_program": "name source", "unload": "name", "pour": "amount",
        "run_program": "name arguments numerator denominator", "undo": "", "redo": "", "programs": "", "gauge": "",
        "cell_values": "", "log": "", "operations": "", "save": "name", "restore": "name", "batch": "operations",
    },
}


def arguments_of(function):
    """Returns the arguments of a function or class as they are written above; a method is taken off an object."""
    words = []
    for name, parameter in inspect.signature(function).parameters.items():
        if parameter.kind == inspect.Parameter.KEYWORD_ONLY:
            assert parameter.default == NO_CELLS, name
            name = "*" + name
        else:
            assert parameter.default is inspect.Parameter.empty, name
        words.append(name)
    return " ".join(words)


class Interface(unittest.TestCase):
    def test_functions_and_classes(self):
        for file, names in FUNCTIONS.items():
            module = importlib.import_module(f"fuelshare.{file}")
            for name, arguments in names.items():
                value = getattr(module, name)
                self.assertEqual((value.__module__, value.__name__), (module.__name__, name))
                self.assertEqual(arguments_of(value), arguments, name)

    def test_methods(self):
        for (file, name), methods in METHODS.items():
            own = vars(getattr(importlib.import_module(f"fuelshare.{file}"), name))
            for method, arguments in methods.items():
                self.assertEqual(arguments_of(own[method]), ("self " + arguments).strip(), method)

    def test_files(self):
        package = pathlib.Path(workspace.__file__).parent
        for name in list(FUNCTIONS) + ["errors", "__init__"]:
            self.assertTrue((package / f"{name}.py").is_file(), name)


if __name__ == "__main__":
    unittest.main()
