"""The expansion of programs to their cores, and its rules."""

from placedanyhow.counts import Counts
from placedanyhow.errors import RuleError
from placedanyhow.scopes import Scope, expand_channel, expand_expression, expand_target

MOST_PROCESSES = 6
GREATEST_SIZE = 8


class Expansion:
    """The processes of a program that is being expanded, and what has been met so far.

    - processes: the list of the processes.
    - indexes: a dict from their names to their indexes in the list.
    """

    def __init__(self, processes):
        self.processes = processes
        self.indexes = {}
        for index, process in enumerate(processes):
            self.indexes[process[1]] = index
        self.counts = Counts()


def expand(program):
    """The core of a program. Raises RuleError with the first rule that is broken."""
    ins, outs, processes, body = program[2:]
    check_different(ins + outs)
    check_different([process[1] for process in processes])
    if len(processes) > MOST_PROCESSES:
        raise RuleError("size")
    expansion = Expansion(processes)
    counts = expansion.counts
    names = {}
    for name in ins:
        names[name] = ("channel", counts.count_channels("in", 1))
    for name in outs:
        names[name] = ("channel", counts.count_channels("out", 1))
    counts.count_thread()
    s = expand_statement(expansion, Scope(names, len(processes), False), body)
    return ("core", counts.cells, list(counts.kinds), s)


def check_different(names):
    seen = {}
    for name in names:
        if name in seen:
            raise RuleError("name")
        seen[name] = True


def expand_statement(expansion, scope, s):
    expansion.counts.count_statement()
    kind = s[0]
    if kind == "skip" or kind == "stop":
        return (kind,)
    action = EXPANDED[kind]
    return action(expansion, scope, s)


# The functions of EXPANDED expand a statement that is already counted. They check its parts in
# the order of the text, because the first rule that is broken decides.

def expand_block(expansion, scope, block):
    counts = expansion.counts
    before = counts.cells
    names = {}
    for declaration in block[1]:
        if declaration[1] in names:
            raise RuleError("name")
        names[declaration[1]] = declare(counts, declaration)
    parts = []
    if scope.repeated:
        parts = [("set", ("cell", k), ("num", 0)) for k in range(before, counts.cells)]
    inner = scope.within(names)
    for s in block[2]:
        parts.append(expand_statement(expansion, inner, s))
    return ("seq", parts)


def declare(counts, declaration):
    """Counts what a declaration declares, and returns what its name stands for."""
    kind = declaration[0]
    if kind == "word":
        return ("word", counts.count_cells(1))
    size = declaration[2]
    if size is None:
        return ("channel", counts.count_channels("inner", 1))
    if size < 1 or size > GREATEST_SIZE:
        raise RuleError("size")
    if kind == "array":
        return ("array", counts.count_cells(size), size)
    return ("channels", counts.count_channels("inner", size), size)


def expand_assign(expansion, scope, s):
    target = expand_target(scope, s[1])
    return ("set", target, expand_expression(scope, s[2]))


def expand_give(expansion, scope, s):
    e = expand_expression(scope, s[1])
    c = expand_channel(scope, s[2])
    if expansion.counts.kinds[c] == "in":
        raise RuleError("channel")
    return ("give", c, e)


def expand_take(expansion, scope, s):
    c = taken_channel(expansion, scope, s[1])
    return ("take", c, expand_target(scope, s[2]))


def taken_channel(expansion, scope, place):
    c = expand_channel(scope, place)
    if expansion.counts.kinds[c] == "out":
        raise RuleError("channel")
    return c


def expand_together(expansion, scope, s):
    return ("par", [expand_branch(expansion, scope, part) for part in s[1]])


def expand_spread(expansion, scope, s):
    _, name, first, last, block = s
    rows = []
    for number in range(first, last + 1):
        inner = scope.within({name: ("number", number)})
        rows.append(expand_branch(expansion, inner, block))
    return ("par", rows)


def expand_branch(expansion, scope, s):
    thread = expansion.counts.count_thread()
    return (thread, expand_statement(expansion, scope, s))


def expand_either(expansion, scope, s):
    rows = []
    seen = {}
    for guard, channel, place, block in s[1]:
        e = None if guard is None else expand_expression(scope, guard)
        c = taken_channel(expansion, scope, channel)
        if c in seen:
            raise RuleError("either")
        seen[c] = True
        target = expand_target(scope, place)
        rows.append((e, c, target, expand_statement(expansion, scope, block)))
    return ("alt", rows)


def expand_if(expansion, scope, s):
    e = expand_expression(scope, s[1])
    block = expand_statement(expansion, scope, s[2])
    return ("if", e, block, expand_statement(expansion, scope, s[3]))


def expand_repeat(expansion, scope, s):
    _, many, condition, block = s
    e = expand_expression(scope, condition)
    return ("repeat", e, many, expand_statement(expansion, scope.in_repeat(), block))


def expand_call(expansion, scope, s):
    _, name, arguments = s
    index = expansion.indexes.get(name)
    if index is None or index >= scope.known:
        raise RuleError("call")
    params, body = expansion.processes[index][2:]
    if len(arguments) != len(params):
        raise RuleError("call")
    check_different([param[1] for param in params])
    names = {}
    parts = []
    for (kind, param), argument in zip(params, arguments):
        if kind == "word":
            cell, setting = expand_argument(expansion, scope, argument)
            names[param] = ("word", cell)
            parts.append(setting)
        else:
            names[param] = ("channel", passed_channel(scope, argument))
    parts.append(expand_statement(expansion, scope.in_process(names, index), body))
    return ("seq", parts)


def expand_argument(expansion, scope, argument):
    """The new cell of a parameter "word", and the "set" of this cell to the argument."""
    e = expand_expression(scope, argument)
    cell = expansion.counts.count_cells(1)
    return (cell, ("set", ("cell", cell), e))


def passed_channel(scope, argument):
    if argument[0] != "name" and argument[0] != "item":
        raise RuleError("call")
    return expand_channel(scope, argument)


EXPANDED = {
    "block": expand_block,
    "assign": expand_assign,
    "give": expand_give,
    "take": expand_take,
    "together": expand_together,
    "spread": expand_spread,
    "either": expand_either,
    "if": expand_if,
    "repeat": expand_repeat,
    "call": expand_call,
}
