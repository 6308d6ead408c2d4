"""What names stand for, and the expansion of expressions, targets and channels."""

from placedanyhow.errors import RuleError
from placedanyhow.words import value


class Scope:
    """What holds at a place of the text.

    - names: a dict from the visible names to what they stand for: ("number", n), ("word", cell),
      ("array", first cell, size), ("channel", c) or ("channels", first channel, size).
    - known: how many of the processes, from the first one on, may be called.
    - repeated: True if the place is inside a "repeat", also one around a call.
    """

    def __init__(self, names, known, repeated):
        self.names = names
        self.known = known
        self.repeated = repeated

    def within(self, names):
        """The scope in which these names are visible, too, and hide the ones outside."""
        merged = dict(self.names)
        merged.update(names)
        return Scope(merged, self.known, self.repeated)

    def in_repeat(self):
        return Scope(self.names, self.known, True)

    def in_process(self, names, known):
        """The scope of the body of a process, in which only its parameters are visible."""
        return Scope(names, known, self.repeated)

    def meaning(self, name, kind):
        """What a name stands for, which must be of this kind."""
        found = self.names.get(name, ("nothing",))
        if found[0] != kind:
            raise RuleError("name")
        return found


def expand_expression(scope, e):
    kind = e[0]
    if kind == "num":
        return e
    if kind == "name":
        return expand_name(scope, e[1])
    if kind == "item":
        return expand_item(scope, e)
    if kind == "neg" or kind == "not":
        return folded((kind, expand_expression(scope, e[1])))
    left = expand_expression(scope, e[1])
    return folded((kind, left, expand_expression(scope, e[2])))


def expand_name(scope, name):
    """A name in an expression, which stands for a word or the number of a "spread"."""
    found = scope.names.get(name)
    if found is not None and found[0] == "number":
        return ("num", found[1])
    return ("cell", scope.meaning(name, "word")[1])


def expand_item(scope, item):
    _, first, size = scope.meaning(item[1], "array")
    index = expand_expression(scope, item[2])
    if is_below(index, size):
        return ("cell", first + index[1])
    return ("at", first, size, index)


def is_below(e, size):
    """Whether a core expression is a number less than a size."""
    return e[0] == "num" and e[1] < size


def folded(e):
    """The value of an operation if all its operands are numbers, unless it faults."""
    for operand in e[1:]:
        if operand[0] != "num":
            return e
    worth = value(e, [])
    return e if worth is None else ("num", worth)


def expand_target(scope, place):
    if place[0] == "item":
        return expand_item(scope, place)
    return ("cell", scope.meaning(place[1], "word")[1])


def expand_channel(scope, place):
    """The number of the channel that a place, a name or an item, stands for."""
    if place[0] == "name":
        return scope.meaning(place[1], "channel")[1]
    _, first, size = scope.meaning(place[1], "channels")
    index = expand_expression(scope, place[2])
    if not is_below(index, size):
        raise RuleError("constant")
    return first + index[1]
