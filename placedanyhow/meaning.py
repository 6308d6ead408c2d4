"""The plain meaning of cores: their runs."""

from placedanyhow.redexes import event, perform, redexes
from placedanyhow.states import initial


def run(core, inputs, choices):
    """The pair of the last state and the list of the events of a run."""
    return run_from(core, inputs, initial(core), choices)


def run_from(core, inputs, state, choices):
    """The same of a run that begins with a state."""
    last, marks = walk(core, inputs, state, choices)
    return (last, [mark for mark in marks if mark is not None])


def steps(core, inputs, choices):
    """The number of the redexes that a run performs."""
    return len(walk(core, inputs, initial(core), choices)[1])


def walk(core, inputs, state, choices):
    """The pair of the last state of a run and the list with the event, or None, of each redex."""
    marks = []
    found = redexes(core, inputs, state)
    while found:
        redex = found[choice(choices, len(marks)) % len(found)]
        marks.append(event(core, inputs, state, redex))
        state = perform(core, inputs, state, redex)
        found = redexes(core, inputs, state)
    return (state, marks)


def choice(choices, k):
    """The choice for the step k."""
    return choices[k % len(choices)] if choices else 0
