"""The steps of threads that are at a statement."""

from placedanyhow.states import going_on, with_cell, with_condition
from placedanyhow.words import place, value


def step(state, t):
    """The state after a step of a thread."""
    stack = state[1][t][1]
    s = stack[0]
    action = STEPS[s[0]]
    return action(state, t, s, stack[1:])


def fault(state, t):
    return with_condition(state, t, ("faulted",))


# The functions of STEPS perform a step of a thread with a statement that is already taken from
# the stack, of which the rest is left. Expressions are evaluated before anything changes, because
# a fault changes nothing but the thread.

def step_skip(state, t, s, rest):
    return with_condition(state, t, going_on(rest))


def step_stop(state, t, s, rest):
    return with_condition(state, t, ("stopped",))


def step_set(state, t, s, rest):
    _, target, e = s
    word = value(e, state[0])
    cell = place(target, state[0])
    if word is None or cell is None:
        return fault(state, t)
    return with_condition(with_cell(state, cell, word), t, going_on(rest))


def step_give(state, t, s, rest):
    _, c, e = s
    word = value(e, state[0])
    if word is None:
        return fault(state, t)
    return with_condition(state, t, ("giving", c, word, rest))


def step_take(state, t, s, rest):
    _, c, target = s
    cell = place(target, state[0])
    if cell is None:
        return fault(state, t)
    return with_condition(state, t, ("open", [(c, cell, [])], rest))


def step_alt(state, t, s, rest):
    rows = open_rows(s[1], state[0])
    if rows is None:
        return fault(state, t)
    if not rows:
        return with_condition(state, t, ("stopped",))
    return with_condition(state, t, ("open", rows, rest))


def open_rows(rows, cells):
    """The rows (c, cell, statements) of an "alt" from which a word may come, or None for a fault."""
    chosen = chosen_rows(rows, cells)
    if chosen is None:
        return None
    found = []
    for _, c, target, s in chosen:
        cell = place(target, cells)
        if cell is None:
            return None
        found.append((c, cell, [s]))
    return found


def chosen_rows(rows, cells):
    """The rows of an "alt" whose guard is None or not 0, or None if a guard faults."""
    found = []
    for row in rows:
        worth = 1 if row[0] is None else value(row[0], cells)
        if worth is None:
            return None
        if worth != 0:
            found.append(row)
    return found


def step_seq(state, t, s, rest):
    return with_condition(state, t, going_on(list(s[1]) + rest))


def step_if(state, t, s, rest):
    _, e, first, second = s
    worth = value(e, state[0])
    if worth is None:
        return fault(state, t)
    return with_condition(state, t, going_on([second if worth == 0 else first] + rest))


def step_repeat(state, t, s, rest):
    _, e, many, inner = s
    worth = 0 if many == 0 else value(e, state[0])
    if worth is None:
        return fault(state, t)
    ahead = [] if worth == 0 else [inner, ("repeat", e, many - 1, inner)]
    return with_condition(state, t, going_on(ahead + rest))


def step_par(state, t, s, rest):
    joined = [branch for branch, _ in s[1]]
    changed = with_condition(state, t, ("joining", joined, rest))
    for branch, part in s[1]:
        changed = with_condition(changed, branch, going_on([part]))
    return changed


STEPS = {
    "skip": step_skip,
    "stop": step_stop,
    "set": step_set,
    "give": step_give,
    "take": step_take,
    "alt": step_alt,
    "seq": step_seq,
    "if": step_if,
    "repeat": step_repeat,
    "par": step_par,
}
