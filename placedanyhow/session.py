"""What the commands of a script set, and the results that they show."""

from placedanyhow.machine import Machine
from placedanyhow.meaning import walk
from placedanyhow.placement import make_plan, spread
from placedanyhow.states import ends, initial
from placedanyhow.usage import threads_of


class Result:
    """What a run or a machine has led to.

    - outputs, ends, events: the words of the "out" channels, the ends of the threads, the events.
    - cells: the words of the cells, or None for a machine that is not quiet.
    - state: the last state of a run, or None for a machine.
    """

    def __init__(self, outputs, told, cells, events, state):
        self.outputs = outputs
        self.ends = told
        self.cells = cells
        self.events = events
        self.state = state


class Session:
    """A program, and what holds for its runs and machines.

    - core: the core of the program, or None.
    - inputs: the words of its "in" channels.
    - network: the network; places, homes: the processors that were set, or None for the usual ones.
    - delays, turn: those of machines.
    - result: the result, or None.
    """

    def __init__(self):
        self.begin(None)

    def begin(self, core):
        """Begins with the core of a program, or with None."""
        self.core = core
        self.inputs = [] if core is None else [[] for _ in range(core[2].count("in"))]
        self.network = (1, [])
        self.places = None
        self.homes = None
        self.delays = [1]
        self.turn = 4
        self.result = None

    def run(self, choices):
        """Makes a run, its result, and returns the numbers of its steps and of its events."""
        state, marks = walk(self.core, self.inputs, initial(self.core), choices)
        events = [mark for mark in marks if mark is not None]
        self.result = Result(state[3], ends(state), state[0], events, state)
        return (len(marks), len(events))

    def run_machine(self, ticks):
        """Makes a machine, runs it, and returns it. Raises PlanError; there is no result then."""
        self.result = None
        machine = Machine(self.core, self.plan(), self.inputs, delays=self.delays, turn=self.turn)
        cells = machine.cells() if machine.run(ticks) else None
        self.result = Result(machine.outputs(), machine.ends(), cells, machine.log, None)
        return machine

    def plan(self):
        """The plan of the network, the places and the homes that hold now. Raises PlanError."""
        places = usual_places(self.core, self.network) if self.places is None else self.places
        homes = usual_homes(self.core, self.network) if self.homes is None else self.homes
        return make_plan(self.core, self.network, places, homes)


def usual_places(core, network):
    """The usual processors of the threads of a core."""
    return usual(len(threads_of(core)), network)


def usual_homes(core, network):
    """The usual processors of the homes of the channels of a core."""
    kinds = core[2]
    homes = usual(len(kinds), network)
    return [home if kind == "inner" else 0 for kind, home in zip(kinds, homes)]


def usual(many, network):
    # Without processors all of them are 0, and the plan is refused because of the network.
    return spread(many, max(network[0], 1))
