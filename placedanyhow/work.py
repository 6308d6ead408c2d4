"""The work of core statements, the measure of states, and the way from a text to a core."""

from placedanyhow.cores import parts_of
from placedanyhow.errors import RuleError
from placedanyhow.names import expand
from placedanyhow.parsing import parse_program
from placedanyhow.usage import check_usage

MOST_WORK = 3000

# The work of a core statement itself, without that of its parts.
OWN_WORK = {
    "skip": 1, "stop": 1, "set": 1,
    "give": 2, "take": 2,
    "seq": 1, "par": 2, "alt": 2, "if": 1, "repeat": 1,
}


def work(s):
    """A bound of the number of the steps of a core statement."""
    kind = s[0]
    works = [work(part) for part in parts_of(s)]
    if kind == "alt" or kind == "if":
        inner = max(works, default=0)
    elif kind == "repeat":
        inner = s[2] * (1 + works[0])
    else:
        inner = sum(works)
    return OWN_WORK[kind] + inner


def measure(state):
    """A bound of the number of the redexes that a run performs from a state on."""
    total = 0
    for condition in state[1]:
        total += measure_condition(condition)
    return total


def measure_condition(condition):
    kind = condition[0]
    if kind == "at":
        return sum_works(condition[1])
    if kind == "giving":
        return 1 + sum_works(condition[3])
    if kind == "open":
        ahead = [sum_works(row[2]) for row in condition[1]]
        return 1 + max(ahead, default=0) + sum_works(condition[2])
    if kind == "joining":
        return 1 + sum_works(condition[2])
    return 0


def sum_works(statements):
    return sum([work(s) for s in statements])


def prepare(text):
    """The core of the program of a text. Raises TextError or RuleError."""
    core = expand(parse_program(text))
    check_usage(core)
    if work(core[3]) > MOST_WORK:
        raise RuleError("work")
    return core
