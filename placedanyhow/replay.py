"""Replaying the events of a machine on the plain meaning."""

from placedanyhow.redexes import event, perform, redexes
from placedanyhow.states import ends, initial


def follow(core, inputs, events):
    """The state of the run that follows a list of events, or None if there is none."""
    state = silenced(core, inputs, initial(core))
    for pair in events:
        redex = first_with(core, inputs, state, pair)
        if redex is None:
            return None
        state = silenced(core, inputs, perform(core, inputs, state, redex))
    return state


def silenced(core, inputs, state):
    """The state after silent redexes, the first one each time, until there is none."""
    redex = first_with(core, inputs, state, None)
    while redex is not None:
        state = perform(core, inputs, state, redex)
        redex = first_with(core, inputs, state, None)
    return state


def first_with(core, inputs, state, mark):
    """The first redex with an event, or the first silent one for None; None if there is none."""
    for redex in redexes(core, inputs, state):
        if event(core, inputs, state, redex) == mark:
            return redex
    return None


def explains(core, inputs, events, outputs, told):
    """Whether the run that follows events ends in a last state with these outputs and ends."""
    state = follow(core, inputs, events)
    if state is None or redexes(core, inputs, state):
        return False
    return state[3] == outputs and ends(state) == told
