"""Point 12: tanks and their processes."""

import random
import unittest

from fuelshare.errors import InvalidArguments, InvalidCells, InvalidFuel, InvalidShare, InvalidSteps, NoProcess
from fuelshare.machine import run
from fuelshare.tank import Tank
from tests.helper import (
    EXAMPLE, NO_CELLS, RIGHT, WRONG_ARGUMENTS, WRONG_CELLS, WRONG_FUEL, WRONG_SHARES, Faults, Reference, make_runs,
)

EMPTY = "def f() {}"
LOOP = "def f() { loop 999999 {} }"
EMITS = "def f(n) { put B = n; loop n { emit B; } return n; }"
# Loses the half of its fuel in a call that runs dry.
LOSES = "def f() { put A = 1; call x = g() share 1/2 else 5; emit x; } def g() { put A = 2; emit 3; loop 999999 {} }"

WRONG_NUMBERS = [-1, 10 ** 30, True, False, None, "0", "", (), (0,), [0], []]
WRONG_STEPS = [0, -1, 1001, 10 ** 30, True, False, None, "1", "", (), (1,), [1], []]


def tell(tank):
    """Returns all that a tank tells about itself and its processes."""
    statuses = tank.statuses()
    outcomes = [tank.outcome(number) for number in range(len(statuses))]
    return tank.gauge(), tank.held(), tank.running(), tank.burned(), statuses, outcomes


class ProcessModel:
    """A process by the second interpreter, which has executed so many steps."""

    def __init__(self, source, arguments, fuel, cells):
        self.run = Reference(source, arguments, fuel, cells)
        self.steps = 0
        self.cancelled = False

    def is_running(self):
        return not self.cancelled and self.steps < len(self.run.states)

    def fuel(self):
        return sum(self.run.states[self.steps][0])

    def outcome(self):
        if self.steps == len(self.run.states):
            return self.run.outcome()[:4]
        _, cells, output = self.run.states[self.steps]
        return ("cancelled" if self.cancelled else "running", None, cells, output)


class TankModel:
    """A tank by the words of point 12, without checks."""

    def __init__(self, fuel):
        self.level = fuel
        self.total = fuel
        self.processes = []

    def pour(self, amount):
        self.level += amount
        self.total += amount
        return self.level

    def start(self, source, arguments, part, whole, cells):
        fuel = part * self.level // whole
        self.level -= fuel
        self.processes.append(ProcessModel(source, arguments, fuel, cells))
        if not self.processes[-1].is_running():
            self.level += fuel
        return len(self.processes) - 1

    def turn(self, steps):
        ended = []
        for number, process in enumerate(self.processes):
            if process.is_running():
                process.steps = min(process.steps + steps, len(process.run.states))
                if not process.is_running():
                    self.level += process.run.rest
                    ended.append(number)
        return ended

    def cancel(self, number):
        fuel = self.processes[number].fuel()
        self.processes[number].cancelled = True
        self.level += fuel
        return fuel

    def tell(self):
        held = [(number, process.fuel()) for number, process in enumerate(self.processes) if process.is_running()]
        outcomes = [process.outcome() for process in self.processes]
        burned = self.total - self.level - sum(fuel for _, fuel in held)
        statuses = [outcome[0] for outcome in outcomes]
        return self.level, held, [number for number, _ in held], burned, statuses, outcomes


class Levels(unittest.TestCase):
    def test_the_examples_of_the_interface(self):
        self.assertEqual(Tank(10).pour(5), 15)
        self.assertEqual(Tank(10).gauge(), 10)
        tank = Tank(10)
        self.assertEqual([tank.start_process(EXAMPLE, (5,), 1, 2), tank.gauge()], [0, 5])
        self.assertEqual((tank.held(), tank.running()), ([(0, 5)], [0]))
        self.assertEqual([tank.turn(3), tank.turn(3)], [[], [0]])
        tank = Tank(10)
        tank.start_process(EXAMPLE, (5,), 1, 2)
        tank.turn(1)
        self.assertEqual(tank.cancel(0), 4)
        tank = Tank(10)
        tank.start_process(EXAMPLE, (5,), 1, 2)
        tank.turn(2)
        self.assertEqual(tank.burned(), 2)
        tank.turn(9)
        self.assertEqual(tank.statuses(), ["done"])
        self.assertEqual(tank.outcome(0), ("done", 6, (5, 0, 0, 0, 0, 0, 0, 0), (5,)))

    def test_pour(self):
        tank = Tank(0)
        self.assertEqual([tank.pour(0), tank.pour(3), tank.pour(4), tank.gauge()], [0, 3, 7, 7])
        self.assertEqual([tank.pour(9993), tank.pour(0), Tank(10000).gauge(), Tank(0).pour(10000)],
                         [10000, 10000, 10000, 10000])

    def test_shares_of_the_level_are_rounded_down(self):
        tank = Tank(100)
        levels = []
        for part, whole in ((1, 3), (2, 3), (1, 9), (8, 9), (1, 2), (1, 1), (1, 1)):
            tank.start_process(LOOP, (), part, whole)
            levels.append(tank.gauge())
        self.assertEqual(levels, [67, 23, 21, 3, 2, 0, 0])
        self.assertEqual(tank.held(), [(0, 33), (1, 44), (2, 2), (3, 18), (4, 1), (5, 2), (6, 0)])

    def test_all_shares(self):
        for whole in range(1, 10):
            for part in range(1, whole + 1):
                tank = Tank(1003)
                tank.start_process(LOOP, (), part, whole)
                self.assertEqual(tank.held(), [(0, part * 1003 // whole)])
                self.assertEqual(tank.gauge(), 1003 - part * 1003 // whole)

    def test_what_processes_hold_does_not_count_for_pour(self):
        tank = Tank(10000)
        tank.start_process(LOOP, (), 1, 1)
        self.assertEqual(tank.pour(10000), 10000)
        self.assertEqual(tank.held(), [(0, 10000)])

    def test_fuel_that_goes_back_is_never_refused(self):
        tank = Tank(10000)
        tank.start_process(LOOP, (), 1, 1)
        tank.start_process(EMPTY, (), 1, 1)
        tank.pour(10000)
        self.assertEqual([tank.cancel(0), tank.gauge()], [10000, 20000])
        self.assertEqual(tank.start_process(EMPTY, (), 1, 1), 2)
        self.assertEqual(tank.gauge(), 20000)
        tank.start_process("def f() { emit 1; }", (), 1, 1)
        self.assertEqual([tank.turn(1), tank.gauge(), tank.burned()], [[3], 19999, 1])

    def test_a_process_can_have_more_than_10000_units(self):
        tank = Tank(10000)
        tank.start_process(LOOP, (), 1, 1)
        tank.pour(10000)
        tank.cancel(0)
        source = "def f() { loop 12344 {} call x = g() share 1/1 else 0; } def g() { emit 5; }"
        self.assertEqual(tank.start_process(source, (), 2, 3), 1)
        self.assertEqual((tank.gauge(), tank.held()), (6667, [(1, 13333)]))
        for _ in range(12):
            self.assertEqual(tank.turn(1000), [])
        self.assertEqual(tank.turn(1000), [1])
        self.assertEqual((tank.gauge(), tank.outcome(1)), (6667 + 13333 - 12347, ("done", 0, NO_CELLS, (5,))))

    def test_a_level_above_10000_takes_nothing(self):
        tank = Tank(10000)
        tank.start_process(LOOP, (), 1, 9)
        tank.pour(1)
        tank.cancel(0)
        self.assertEqual(tank.gauge(), 10001)
        for amount in (0, 1, 10000):
            with self.assertRaises(InvalidFuel):
                tank.pour(amount)
        tank.start_process("def f() { emit 1; }", (), 1, 1)
        tank.turn(1)
        self.assertEqual(tank.pour(0), 10000)


class Ends(unittest.TestCase):
    def test_a_process_that_ends_without_any_step(self):
        tank = Tank(10)
        self.assertEqual(tank.start_process(EMPTY, (), 1, 1, cells=(7,) * 8), 0)
        self.assertEqual(tell(tank), (10, [], [], 0, ["done"], [("done", 0, (7,) * 8, ())]))
        self.assertEqual(tank.turn(1), [])
        # It had given its fuel back before the next process started.
        self.assertEqual(tank.start_process(LOOP, (), 1, 1), 1)
        self.assertEqual((tank.held(), tank.gauge(), tank.turn(1000)), ([(1, 10)], 0, [1]))

    def test_a_process_without_fuel_runs_dry_in_its_first_step(self):
        for source in (LOOP, "def f() { return 1; }"):
            tank = Tank(1)
            tank.start_process(source, (), 1, 2)
            self.assertEqual(tell(tank), (1, [(0, 0)], [0], 0, ["running"], [("running", None, NO_CELLS, ())]))
            self.assertEqual(tank.turn(1), [0])
            self.assertEqual(tell(tank), (1, [], [], 0, ["dry"], [("dry", None, NO_CELLS, ())]))

    def test_running_dry_takes_a_step(self):
        tank = Tank(3)
        tank.start_process("def f() { put A = 1; emit 2; emit 3; emit 4; }", (), 1, 1, cells=(9,) * 8)
        self.assertEqual([tank.turn(2), tank.turn(1)], [[], []])
        cells = (1,) + (9,) * 7
        self.assertEqual(tell(tank), (0, [(0, 0)], [0], 3, ["running"], [("running", None, cells, (2, 3))]))
        self.assertEqual(tank.turn(1), [0])
        self.assertEqual(tell(tank), (0, [], [], 3, ["dry"], [("dry", None, (9,) * 8, ())]))

    def test_a_process_ends_with_the_last_step_of_a_turn(self):
        tank = Tank(9)
        tank.start_process(EXAMPLE, (5,), 1, 1)
        self.assertEqual([tank.turn(4), tank.statuses(), tank.turn(1), tank.gauge()], [[], ["running"], [0], 4])

    def test_the_rest_goes_back(self):
        tank = Tank(20)
        tank.start_process(EXAMPLE, (5,), 1, 2)
        self.assertEqual([tank.turn(1000), tank.gauge(), tank.burned()], [[0], 15, 5])
        tank.start_process(EXAMPLE, (5,), 1, 1)
        self.assertEqual([tank.turn(1000), tank.gauge(), tank.burned()], [[1], 10, 10])

    def test_fuel_that_is_lost_is_burned(self):
        tank = Tank(100)
        tank.start_process(LOSES, (), 2, 5)
        self.assertEqual(tank.turn(5), [])
        self.assertEqual(tell(tank)[:4], (60, [(0, 35)], [0], 5))
        self.assertEqual(tank.turn(1000), [0])
        # 40 units: 2 are paid, 19 are lost, 1 is paid.
        self.assertEqual(tell(tank), (78, [], [], 22, ["done"], [("done", 0, (1,) + NO_CELLS[1:], (5,))]))

    def test_turns_list_what_ended_meanwhile(self):
        tank = Tank(1000)
        for many in (3, 1, 0, 2):
            tank.start_process(EMITS, (many,), 1, 9)
        tank.start_process(EMPTY, (), 1, 9)
        tank.start_process(EMITS, (1,), 1, 9)
        self.assertEqual([tank.turn(3), tank.turn(1)], [[2], []])
        tank.cancel(1)
        self.assertEqual([tank.turn(1), tank.running()], [[5], [0, 3]])
        self.assertEqual([tank.turn(2), tank.turn(1), tank.turn(1), tank.turn(1)], [[3], [], [0], []])
        self.assertEqual(tank.statuses(), ["done", "cancelled", "done", "done", "done", "done"])

    def test_several_processes_end_in_one_turn(self):
        tank = Tank(9000)
        for many in (7, 1, 4):
            tank.start_process(EMITS, (many,), 1, 3)
        self.assertEqual(tank.turn(1000), [0, 1, 2])
        self.assertEqual((tank.gauge(), tank.burned()), (9000 - 17 - 5 - 11, 33))
        self.assertEqual(tank.outcome(2), ("done", 4, (0, 4) + NO_CELLS[2:], (4, 4, 4, 4)))

    def test_a_turn_has_its_largest_number_of_steps(self):
        tank = Tank(10000)
        tank.start_process("def f() { loop 998 {} return 3; }", (), 1, 2)
        tank.start_process("def f() { loop 999 {} return 3; }", (), 1, 1)
        self.assertEqual([tank.turn(1000), tank.turn(1)], [[0], [1]])

    def test_deep_calls(self):
        tank = Tank(10000)
        tank.start_process("def f() { call x = f() share 1/1 else 0; emit 1; }", (), 1, 1)
        self.assertEqual([tank.turn(1000), tank.held(), tank.burned()], [[], [(0, 9000)], 1000])
        self.assertEqual([tank.cancel(0), tank.gauge(), tank.burned()], [9000, 9000, 1000])


class Cancelled(unittest.TestCase):
    def test_the_fuel_of_all_calls_goes_back(self):
        tank = Tank(10)
        tank.start_process(EXAMPLE, (5,), 1, 1)
        tank.turn(2)
        self.assertEqual(tank.held(), [(0, 8)])
        self.assertEqual([tank.cancel(0), tank.gauge(), tank.burned()], [8, 8, 2])
        self.assertEqual((tank.held(), tank.running(), tank.statuses(), tank.turn(9)), ([], [], ["cancelled"], []))

    def test_the_cells_and_the_output_are_those_of_the_last_moment(self):
        tank = Tank(100)
        tank.start_process(LOSES, (), 1, 1, cells=(8,) * 8)
        tank.turn(5)
        outcome = ("running", None, (2,) + (8,) * 7, (3,))
        self.assertEqual(tank.outcome(0), outcome)
        tank.cancel(0)
        self.assertEqual(tank.outcome(0), ("cancelled",) + outcome[1:])
        tank.turn(5)
        self.assertEqual(tank.outcome(0), ("cancelled",) + outcome[1:])

    def test_before_the_first_step(self):
        tank = Tank(10)
        tank.start_process(EXAMPLE, (5,), 2, 3)
        self.assertEqual([tank.cancel(0), tank.gauge(), tank.burned()], [6, 10, 0])
        self.assertEqual(tank.outcome(0), ("cancelled", None, NO_CELLS, ()))

    def test_without_any_fuel(self):
        tank = Tank(0)
        tank.start_process(LOOP, (), 1, 1)
        self.assertEqual([tank.cancel(0), tank.statuses()], [0, ["cancelled"]])

    def test_numbers_go_on(self):
        tank = Tank(10)
        numbers = []
        for source in (EMPTY, LOOP, EMPTY, LOOP):
            numbers.append(tank.start_process(source, (), 1, 2))
            if source == LOOP:
                tank.cancel(numbers[-1])
        self.assertEqual((numbers, tank.statuses()), ([0, 1, 2, 3], ["done", "cancelled"] * 2))


class TankFaults(Faults):
    def setUp(self):
        self.tank = Tank(1000)
        self.tank.start_process(EXAMPLE, (5,), 1, 2)
        self.tank.start_process(EMPTY, (), 1, 2)
        self.tank.start_process(LOOP, (), 1, 2)
        self.tank.turn(2)
        self.tank.cancel(2)
        self.before = tell(self.tank)

    def refuse(self, error, method, *arguments, **keywords):
        """A call must raise this error and change nothing."""
        self.check(error, method, *arguments, **keywords)
        self.assertEqual(tell(self.tank), self.before)

    def test_fuel_at_creation(self):
        for fuel in WRONG_FUEL:
            self.check(InvalidFuel, Tank, fuel)
        self.assertEqual([Tank(0).gauge(), Tank(10000).gauge()], [0, 10000])

    def test_pour(self):
        for amount in WRONG_FUEL + [9503, 10000]:
            self.refuse(InvalidFuel, self.tank.pour, amount)
        self.assertEqual([self.tank.gauge(), self.tank.pour(9502)], [498, 10000])
        self.check(InvalidFuel, self.tank.pour, 1)
        self.assertEqual(self.tank.gauge(), 10000)

    def test_start_process(self):
        start = self.tank.start_process
        self.check_source(start, None, 0, None, cells=None)
        for arguments in WRONG_ARGUMENTS:
            self.refuse(InvalidArguments, start, RIGHT, arguments, 0, None, cells=None)
            self.refuse(InvalidArguments, start, RIGHT, arguments, 1, 2)
        for cells in WRONG_CELLS:
            self.refuse(InvalidCells, start, RIGHT, (5,), 0, None, cells=cells)
            self.refuse(InvalidCells, start, RIGHT, (5,), 1, 2, cells=cells)
        for part, whole in WRONG_SHARES:
            self.refuse(InvalidShare, start, RIGHT, (5,), part, whole)
            self.refuse(InvalidShare, start, RIGHT, (5,), part, whole, cells=(999999,) * 8)
        self.assertEqual(start(RIGHT, (999999,), 9, 9, cells=(999999,) * 8), 3)
        self.assertEqual(start(RIGHT, (0,), 1, 9), 4)

    def test_cells_are_passed_by_keyword(self):
        with self.assertRaises(TypeError):
            self.tank.start_process(RIGHT, (5,), 1, 2, NO_CELLS)

    def test_turn(self):
        for steps in WRONG_STEPS:
            self.refuse(InvalidSteps, self.tank.turn, steps)
            self.check(InvalidSteps, Tank(5).turn, steps)
        self.assertEqual([self.tank.turn(1), self.tank.turn(1000)], [[], [0]])

    def test_cancel(self):
        for number in WRONG_NUMBERS + [1, 2, 3]:
            self.refuse(NoProcess, self.tank.cancel, number)
        for number in WRONG_NUMBERS + [0]:
            self.check(NoProcess, Tank(5).cancel, number)
        self.tank.cancel(0)
        self.check(NoProcess, self.tank.cancel, 0)

    def test_a_dry_process_is_not_running(self):
        tank = Tank(0)
        tank.start_process(LOOP, (), 1, 1)
        tank.turn(1)
        self.check(NoProcess, tank.cancel, 0)

    def test_outcome(self):
        for number in WRONG_NUMBERS + [3, 4]:
            self.refuse(NoProcess, self.tank.outcome, number)
        for number in WRONG_NUMBERS + [0]:
            self.check(NoProcess, Tank(5).outcome, number)


class Processes(unittest.TestCase):
    def test_each_process_is_like_a_single_run(self):
        for source, arguments, cells in make_runs(range(60)):
            for fuel, steps in ((7, 1), (40, 3), (600, 1000)):
                tank = Tank(fuel)
                tank.start_process(source, arguments, 1, 1, cells=cells)
                tank.start_process(EMITS, (3,), 1, 1)
                while tank.running():
                    tank.turn(steps)
                expected = run(source, arguments, fuel, cells=cells)
                self.assertEqual(tank.outcome(0), expected[:4])
                self.assertGreaterEqual(tank.gauge(), expected[4])

    def test_tanks_that_are_made_up(self):
        ends = []
        for seed in range(60):
            chance = random.Random(seed)
            runs = make_runs([chance.randrange(400) for _ in range(6)])
            fuel = chance.choice([0, 30, 400, 3000])
            tank, model = Tank(fuel), TankModel(fuel)
            for _ in range(40):
                self.act(chance, tank, model, runs)
                self.assertEqual(tell(tank), model.tell())
            ends += tank.statuses()
        for status in ("running", "done", "dry", "cancelled"):
            self.assertGreater(ends.count(status), 20, status)

    def act(self, chance, tank, model, runs):
        """Does the same with a tank and its model."""
        kind = chance.choice(["start", "start", "turn", "turn", "turn", "pour", "cancel"])
        running = tank.running()
        if kind == "start":
            source, arguments, cells = chance.choice(runs)
            whole = chance.randint(1, 9)
            part = chance.randint(1, whole)
            started = tank.start_process(source, arguments, part, whole, cells=cells)
            self.assertEqual(started, model.start(source, arguments, part, whole, cells))
        elif kind == "turn":
            steps = chance.choice([1, 1, 2, 5, 20])
            self.assertEqual(tank.turn(steps), model.turn(steps))
        elif kind == "pour" and model.level <= 9900:
            amount = chance.randint(0, 100)
            self.assertEqual(tank.pour(amount), model.pour(amount))
        elif kind == "cancel" and running:
            number = chance.choice(running)
            self.assertEqual(tank.cancel(number), model.cancel(number))


if __name__ == "__main__":
    unittest.main()
