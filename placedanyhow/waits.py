"""Why threads wait in last states."""

from placedanyhow.states import end_of
from placedanyhow.usage import threads_of, touched

# Where the channels on which a statement gives, and from which it takes, stand in what `touched`
# returns.
GIVES = 2
TAKES = 3


def waits(core, state):
    """The list of the pairs (t, reasons) of the waiting threads, in ascending order."""
    rows = threads_of(core)
    found = []
    for t, condition in enumerate(state[1]):
        if end_of(condition) == "waiting":
            found.append((t, reasons_of(core, state, rows, t)))
    return found


def reasons_of(core, state, rows, t):
    """The list of the reasons (c, other, why) of a waiting thread."""
    condition = state[1][t]
    kind = condition[0]
    if kind == "joining":
        ended = [(other, end_of(state[1][other])) for other in condition[1]]
        return [(None, other, why) for other, why in ended if why != "done"]
    if kind == "giving":
        return [meeting_reason(core, state, rows, t, condition[1])]
    return [meeting_reason(core, state, rows, t, row[0]) for row in condition[1]]


def meeting_reason(core, state, rows, t, c):
    """The reason why a thread waits at a channel."""
    if core[2][c] == "in":
        return (c, None, "input")
    other = partner(state, rows, t, c)
    if other is None:
        return (c, None, "nobody")
    return (c, other, end_of(state[1][other]))


def partner(state, rows, t, c):
    """The thread that has the other end of a channel at which a thread waits, or None."""
    side = TAKES if state[1][t][0] == "giving" else GIVES
    inside = t
    while inside != 0:
        parent = rows[inside][0]
        for other in state[1][parent][1]:
            if other != inside and c in touched(rows[other][1])[side]:
                return other
        inside = parent
    return None


def chain(core, state, t):
    """The pair of the list of the threads of the chain of a waiting thread and its end."""
    reasons = dict(waits(core, state))
    found = [t]
    while True:
        c, other, why = reasons[found[-1]][0]
        if other not in reasons:
            return (found, ("dead", c, other, why))
        if other in found:
            return (found, ("ring", found.index(other)))
        found.append(other)


def explains(core, state, threads, end):
    """Whether a list of threads and an end explain why the first thread waits."""
    reasons = dict(waits(core, state))
    for index, t in enumerate(threads):
        if t not in reasons or t in threads[:index]:
            return False
        if index > 0 and not waits_for(reasons, threads[index - 1], t):
            return False
    last = threads[-1]
    if end[0] == "ring":
        k = end[1]
        return k in range(len(threads)) and waits_for(reasons, last, threads[k])
    return end[3] != "waiting" and end[1:] in reasons[last]


def waits_for(reasons, t, other):
    """Whether a waiting thread has a reason with this other thread."""
    return other in [reason[1] for reason in reasons[t]]
