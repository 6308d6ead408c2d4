"""The states of cores: cells, conditions of threads, words taken and words given.

States are never modified: what changes a state makes a new one, which shares the parts that stay.
"""

from placedanyhow.usage import threads_of

# The conditions that are ends themselves.
FINAL = ("idle", "done", "stopped", "faulted")


def initial(core):
    """The state of a core at the start."""
    _, cells, channels, body = core
    threads = [("idle",) for _ in threads_of(core)]
    threads[0] = ("at", [body])
    return ([0] * cells, threads, [0] * channels.count("in"), [[] for _ in range(channels.count("out"))])


def ends(state):
    """The list of the ends of the threads."""
    return [end_of(condition) for condition in state[1]]


def end_of(condition):
    kind = condition[0]
    if kind in FINAL:
        return kind
    return "running" if kind == "at" else "waiting"


def rank(core, c):
    """The index of a channel among the channels of its kind."""
    channels = core[2]
    return channels[:c].count(channels[c])


def going_on(stack):
    """The condition of a thread that goes on with a stack."""
    return ("at", stack) if stack else ("done",)


def with_condition(state, t, condition):
    """The state with another condition of a thread."""
    cells, threads, taken, outputs = state
    changed = list(threads)
    changed[t] = condition
    return (cells, changed, taken, outputs)


def with_cell(state, cell, word):
    """The state with another word in a cell."""
    cells, threads, taken, outputs = state
    changed = list(cells)
    changed[cell] = word
    return (changed, threads, taken, outputs)
