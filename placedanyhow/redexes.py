"""The redexes of states: what can happen next, and what it changes."""

from placedanyhow.states import going_on, rank, with_cell, with_condition
from placedanyhow.stepping import step


def redexes(core, inputs, state):
    """The list of the redexes of a state, by their threads in ascending order."""
    found = []
    givers = givers_of(state)
    for t, condition in enumerate(state[1]):
        kind = condition[0]
        if kind == "at":
            found.append(("step", t))
        elif kind == "open":
            found.extend(ways_in(core, inputs, state, givers, t))
        elif kind == "giving" and core[2][condition[1]] == "out":
            found.append(("output", condition[1], t))
        elif kind == "joining" and all_done(state, condition[1]):
            found.append(("end", t))
    return found


def givers_of(state):
    """A dict from the channels to the threads that are giving on them."""
    found = {}
    for t, condition in enumerate(state[1]):
        if condition[0] == "giving":
            found[condition[1]] = t
    return found


def ways_in(core, inputs, state, givers, t):
    """The redexes of an open thread."""
    found = []
    for c, _, _ in state[1][t][1]:
        kind = core[2][c]
        if kind == "inner" and c in givers:
            found.append(("meet", c, givers[c], t))
        elif kind == "in" and is_left(core, inputs, state, c):
            found.append(("input", c, t))
    return found


def is_left(core, inputs, state, c):
    """Whether a word of an "in" channel is left."""
    index = rank(core, c)
    return state[2][index] < len(inputs[index])


def all_done(state, threads):
    for t in threads:
        if state[1][t][0] != "done":
            return False
    return True


def event(core, inputs, state, redex):
    """The event of a redex, a pair (c, word), or None."""
    kind = redex[0]
    if kind == "meet" or kind == "output":
        c, giver = redex[1], redex[2]
        return (c, state[1][giver][2])
    if kind == "input":
        c = redex[1]
        index = rank(core, c)
        return (c, inputs[index][state[2][index]])
    return None


def perform(core, inputs, state, redex):
    """The state after a redex."""
    action = PERFORMED[redex[0]]
    return action(core, inputs, state, redex)


def perform_step(core, inputs, state, redex):
    return step(state, redex[1])


def perform_meet(core, inputs, state, redex):
    _, c, giver, taker = redex
    word = event(core, inputs, state, redex)[1]
    _, _, _, stack = state[1][giver]
    return with_condition(store(state, taker, c, word), giver, going_on(stack))


def perform_input(core, inputs, state, redex):
    _, c, taker = redex
    word = event(core, inputs, state, redex)[1]
    cells, threads, taken, outputs = store(state, taker, c, word)
    counts = list(taken)
    counts[rank(core, c)] += 1
    return (cells, threads, counts, outputs)


def store(state, taker, c, word):
    """The state in which an open thread has got a word from a channel."""
    _, rows, stack = state[1][taker]
    _, cell, statements = [row for row in rows if row[0] == c][0]
    return with_condition(with_cell(state, cell, word), taker, going_on(statements + stack))


def perform_output(core, inputs, state, redex):
    _, c, giver = redex
    _, _, word, stack = state[1][giver]
    cells, threads, taken, outputs = with_condition(state, giver, going_on(stack))
    index = rank(core, c)
    longer = list(outputs)
    longer[index] = outputs[index] + [word]
    return (cells, threads, taken, longer)


def perform_end(core, inputs, state, redex):
    t = redex[1]
    _, _, stack = state[1][t]
    return with_condition(state, t, going_on(stack))


PERFORMED = {
    "step": perform_step,
    "meet": perform_meet,
    "input": perform_input,
    "output": perform_output,
    "end": perform_end,
}
