"""Drawn cores that keep the rules "usage" and "work", and whose threads meet often."""

from placedanyhow.errors import RuleError
from placedanyhow.usage import check_usage
from placedanyhow.work import work
from tests.parts import NOTHING, SKIP, STOP, alt, at, cell, give, num, par, put, repeat, take, when

OPERATORS = ("+", "-", "*", "/", "mod", "and", "or", "==", "!=", "<", "<=")
MOST_THREADS = 12
MOST_WORK = 3000


class Ends:
    """What a branch may touch: cells to read and to write, channels to give on and to take from."""

    def __init__(self, reads, writes, gives, takes):
        self.reads = reads
        self.writes = writes
        self.gives = gives
        self.takes = takes

    def parts(self, rng, many):
        """What so many branches may touch; a cell of no branch is one that all of them may read."""
        length = max(1, len(self.writes))
        owner = {k: p * many // length if rng.random() < 0.85 else -1 for p, k in enumerate(self.writes)}
        gives = {c: rng.randrange(many) for c in self.gives}
        takes = {c: rng.choice([p for p in range(many) if p != gives.get(c)] or [0]) for c in self.takes}
        found = []
        for p in range(many):
            reads = [k for k in self.reads if owner.get(k, -1) in (-1, p)]
            writes = [k for k in self.writes if owner[k] == p]
            part_gives = [c for c in self.gives if gives[c] == p]
            found.append(Ends(reads, writes, part_gives, [c for c in self.takes if takes[c] == p]))
        return found


def row_of(rng, cells):
    """The first cell and the size of a row of these cells, or None."""
    starts = [k for k in cells if k + 1 in cells]
    if not starts:
        return None
    first = rng.choice(starts)
    size = 2
    while first + size in cells and rng.random() < 0.6:
        size += 1
    return (first, size)


def draw_expression(rng, cells, depth=2):
    kind = rng.randrange(10)
    if depth == 0 or kind < 4:
        return cell(rng.choice(cells)) if cells and rng.random() < 0.5 else num(rng.choice((0, 1, 2, 3, 65535)))
    if kind == 4 and row_of(rng, cells):
        return at(*row_of(rng, cells), draw_index(rng, cells))
    if kind == 5:
        return (rng.choice(("neg", "not")), draw_expression(rng, cells, depth - 1))
    operator = rng.choice(("+", "-", "<", "==", "or") if rng.random() < 0.8 else OPERATORS)
    return (operator, draw_expression(rng, cells, depth - 1), draw_expression(rng, cells, depth - 1))


def draw_index(rng, cells):
    """An index that is mostly less than two."""
    if rng.random() < 0.6:
        return num(rng.randrange(2))
    return ("mod", draw_expression(rng, cells, 1), num(rng.choice((1, 2, 2, 2, 2, 2, 3))))


def draw_target(rng, ends):
    row = row_of(rng, ends.writes)
    if row is not None and rng.random() < 0.4:
        return at(*row, draw_index(rng, ends.reads))
    return cell(rng.choice(ends.writes))


class Drawing:
    """Draws statements that perform actions, pairs ("give" or "take", channel), in their order."""

    def __init__(self, rng, kinds, alts):
        self.rng = rng
        self.kinds = kinds
        self.alts = alts
        self.threads = 1
        self.reserved = 1

    def statement(self, ends, actions, depth):
        rng = self.rng
        if depth > 0 and rng.random() < 0.3 and self.reserved + 3 <= MOST_THREADS:
            return self.branches(ends, actions, depth - 1)
        if not actions:
            return self.other(ends, depth)
        if self.alts and actions[0][0] == "take" and rng.random() < 0.5 and ends.writes:
            return self.choice(ends, actions, depth)
        if depth > 0 and rng.random() < 0.15:
            first = self.statement(ends, actions, depth - 1)
            return when(draw_expression(rng, ends.reads), first, self.statement(ends, actions, depth - 1))
        if depth > 0 and rng.random() < 0.1:
            return repeat(1, num(1), self.statement(ends, actions, depth - 1))
        if len(actions) == 1 and rng.random() < 0.7:
            return self.action(ends, *actions[0])
        return self.split(ends, actions, depth)

    def split(self, ends, actions, depth):
        """A "seq" of statements for parts of the actions, and others between them."""
        cut = self.rng.randrange(len(actions) + 1)
        parts = [self.statement(ends, actions[:cut], depth - 1), self.statement(ends, actions[cut:], depth - 1)]
        parts.insert(self.rng.randrange(3), self.other(ends, depth))
        return ("seq", parts)

    def action(self, ends, kind, c):
        if kind == "give":
            return give(c, draw_expression(self.rng, ends.reads))
        return take(c, draw_target(self.rng, ends)) if ends.writes else SKIP

    def choice(self, ends, actions, depth):
        """An "alt" with a row for the first action, which is a "take", and perhaps others."""
        rng = self.rng
        first = actions[0][1]
        others = [c for c in ends.takes if c != first]
        channels = [first] + rng.sample(others, min(len(others), rng.randrange(3)))
        rng.shuffle(channels)
        rows = []
        for c in channels:
            guard = draw_expression(rng, ends.reads, 1) if rng.random() < 0.2 else None
            rest = actions[1:] if c == first else rng.choice((actions, actions[1:], []))
            rows.append((guard, c, draw_target(rng, ends), self.statement(ends, rest, depth - 1)))
        return alt(*rows)

    def other(self, ends, depth):
        """A statement without actions."""
        rng = self.rng
        inputs = [("take", c) for c in ends.takes if self.kinds[c] == "in"]
        outputs = [("give", c) for c in ends.gives if self.kinds[c] == "out"]
        if inputs + outputs and rng.random() < 0.4:
            return self.action(ends, *rng.choice(inputs + outputs))
        if ends.writes and rng.random() < 0.6:
            return put(draw_target(rng, ends), draw_expression(rng, ends.reads))
        if depth > 0 and rng.random() < 0.3:
            return repeat(rng.randrange(4), draw_expression(rng, ends.reads), self.other(ends, depth - 1))
        if rng.random() < 0.1:
            rare = [STOP, NOTHING, par(), when(num(0), STOP)] + ([alt()] if self.alts else [])
            return rng.choice(rare)
        return SKIP

    def branches(self, ends, actions, depth):
        """A "par" whose branches perform the actions, and meet each other."""
        rng = self.rng
        parts = ends.parts(rng, rng.choice((1, 2, 2, 2, 3)))
        self.reserved += len(parts)
        rounds = 1 if actions else rng.choice((1, 1, 2, 3))
        inner = [c for c in ends.gives if c in ends.takes and len(parts) > 1]
        order = [[action] for action in actions]
        for _ in range(rng.randrange(1, 6) if inner else 0):
            c = rng.choice(inner)
            order.insert(rng.randrange(len(order) + 1), [("give", c), ("take", c)])
        rows = []
        for part in parts:
            todo = [(kind, c) for group in order for kind, c in group if c in part.gives and kind == "give"
                    or c in part.takes and kind == "take"]
            if todo and rng.random() < 0.05:
                todo.insert(0, todo.pop(rng.randrange(len(todo))))
            if todo and rng.random() < 0.03:
                todo.pop()
            t = self.threads
            self.threads += 1
            s = self.statement(part, todo, depth)
            rows.append((t, s if rounds == 1 else repeat(rounds, num(1), s)))
        return ("par", rows)


def keeps_the_rules(core):
    try:
        check_usage(core)
    except RuleError:
        return False
    return work(core[3]) <= MOST_WORK


def draw_core(rng, alts=False):
    """A pair of a core, with or without "alt", and of inputs."""
    while True:
        cells = list(range(rng.choice((3, 8, 16, 24))))
        kinds = ["in"] * rng.randrange(3) + ["out"] * rng.randrange(3) + ["inner"] * rng.randrange(2, 7)
        rng.shuffle(kinds)
        gives = [c for c, kind in enumerate(kinds) if kind != "in"]
        takes = [c for c, kind in enumerate(kinds) if kind != "out"]
        drawing = Drawing(rng, kinds, alts)
        ends = Ends(cells, cells, gives, takes)
        parts = [drawing.branches(ends, [], 3), drawing.statement(ends, [], 3), drawing.other(ends, 2)]
        core = ("core", len(cells), kinds, ("seq", parts))
        if keeps_the_rules(core):
            break
    many = kinds.count("in")
    inputs = [[rng.choice((0, 1, 2, 7, 65535)) for _ in range(rng.randrange(6))] for _ in range(many)]
    return (core, inputs)
