"""What core statements read, write, give on and take from, and the rule "usage"."""

from placedanyhow.cores import parts_of
from placedanyhow.errors import RuleError


class Touch:
    """The cells and channels that a statement touches, as the keys of dicts."""

    def __init__(self):
        self.reads = {}
        self.writes = {}
        self.gives = {}
        self.takes = {}


def touched(s):
    """The cells that a core statement reads and writes, the channels it gives on and takes from."""
    found = Touch()
    note_statement(found, s)
    return (sorted(found.reads), sorted(found.writes), sorted(found.gives), sorted(found.takes))


def note_statement(found, s):
    kind = s[0]
    if kind == "set":
        note_target(found, s[1])
        note_expression(found, s[2])
    elif kind == "give":
        found.gives[s[1]] = True
        note_expression(found, s[2])
    elif kind == "take":
        found.takes[s[1]] = True
        note_target(found, s[2])
    elif kind == "alt":
        for guard, c, target, _ in s[1]:
            found.takes[c] = True
            note_guard(found, guard)
            note_target(found, target)
    elif kind == "if" or kind == "repeat":
        note_expression(found, s[1])
    for part in parts_of(s):
        note_statement(found, part)


def note_guard(found, guard):
    if guard is not None:
        note_expression(found, guard)


def note_target(found, target):
    for k in cells_of(target):
        found.writes[k] = True
    if target[0] == "at":
        note_expression(found, target[3])


def note_expression(found, e):
    kind = e[0]
    if kind == "num":
        return
    if kind == "cell" or kind == "at":
        for k in cells_of(e):
            found.reads[k] = True
        if kind == "at":
            note_expression(found, e[3])
        return
    for operand in e[1:]:
        note_expression(found, operand)


def cells_of(target):
    """The cells for which a target stands: its cell, or all cells of its row."""
    if target[0] == "cell":
        return [target[1]]
    first, size = target[1:3]
    return list(range(first, first + size))


def check_usage(core):
    """Raises RuleError if two branches of a "par" share a cell that one writes, or a channel's end."""
    check_statement(core[3])


def check_statement(s):
    parts = parts_of(s)
    if s[0] == "par":
        check_branches([touched(part) for part in parts])
    for part in parts:
        check_statement(part)


def check_branches(branches):
    for index, branch in enumerate(branches):
        for other in branches[:index]:
            if disturbs(branch, other) or disturbs(other, branch) or meets(branch, other):
                raise RuleError("usage")


def disturbs(branch, other):
    """Whether a branch writes a cell that another one reads or writes."""
    writes = branch[1]
    return shares(writes, other[0]) or shares(writes, other[1])


def meets(branch, other):
    """Whether two branches give on the same channel, or take from the same channel."""
    return shares(branch[2], other[2]) or shares(branch[3], other[3])


def shares(numbers, others):
    for number in numbers:
        if number in others:
            return True
    return False


def threads_of(core):
    """The list of the pairs (parent, statement) of the threads, in the order of their numbers."""
    found = {0: (None, core[3])}
    note_branches(found, 0, core[3])
    return [found[thread] for thread in sorted(found)]


def note_branches(found, parent, s):
    """Notes the threads inside a statement of a thread, as a dict from their numbers."""
    if s[0] == "par":
        for thread, part in s[1]:
            found[thread] = (parent, part)
            note_branches(found, thread, part)
        return
    for part in parts_of(s):
        note_branches(found, parent, part)
