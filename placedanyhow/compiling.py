"""Compiling threads to instructions."""


class Code:
    """The code of a thread as far as it is made.

    - takes: the cells of the thread, ascending, of which each is at the place with its index.
    - places: the number of the places so far.
    - rows: the list of the instructions so far.

    The address of a jump over what follows is not known yet when the jump is added: `leave` keeps
    its place free, and `jump_here` and `fill` put the instruction there.
    """

    def __init__(self, takes):
        self.takes = takes
        self.places = len(takes)
        self.rows = []

    def new_place(self):
        self.places += 1
        return self.places - 1

    def place_of(self, cell):
        return self.takes.index(cell)

    def here(self):
        """The address of the next instruction."""
        return len(self.rows)

    def emit(self, instruction):
        self.rows.append(instruction)

    def leave(self):
        """Keeps the place of an instruction free, and returns its address."""
        self.rows.append(None)
        return len(self.rows) - 1

    def fill(self, address, instruction):
        self.rows[address] = instruction

    def jump_here(self, name, address):
        """Fills an address with a "jump" or "jzero" to the next instruction."""
        self.fill(address, (name, self.here()))


def compile_thread(thread):
    """The pair of the number of places and the list of the instructions of a thread."""
    _, takes, _, own = thread
    code = Code(takes)
    add_statement(code, own)
    code.emit(("end",))
    return (code.places, code.rows)


def add_expression(code, e):
    """Adds what pushes the value of an expression."""
    kind = e[0]
    if kind == "num":
        code.emit(("push", e[1]))
    elif kind == "cell":
        code.emit(("load", code.place_of(e[1])))
    elif kind == "at":
        add_indexed(code, "loadx", e)
    elif kind == "neg" or kind == "not":
        add_expression(code, e[1])
        code.emit((kind,))
    else:
        add_expression(code, e[1])
        add_expression(code, e[2])
        code.emit(("calc", kind))


def add_indexed(code, name, item):
    """Adds the index of an item, and the instruction that uses it."""
    _, first, size, e = item
    add_expression(code, e)
    code.emit((name, code.place_of(first), size))


def add_storing(code, target):
    """Adds what pops a word and stores it into a target."""
    if target[0] == "cell":
        code.emit(("store", code.place_of(target[1])))
    else:
        add_indexed(code, "storex", target)


def add_preparing(code, target):
    """Adds what keeps the index of a target, and returns its place, or None for a cell."""
    if target[0] == "cell":
        return None
    _, _, size, e = target
    k = code.new_place()
    add_expression(code, e)
    code.emit(("check", size))
    code.emit(("store", k))
    return k


def add_finishing(code, target, k):
    """Adds what pops a word and stores it into a target that is prepared with a place or None."""
    if target[0] == "cell":
        code.emit(("store", code.place_of(target[1])))
        return
    _, first, size, _ = target
    code.emit(("load", k))
    code.emit(("storex", code.place_of(first), size))


def add_statement(code, s):
    kind = s[0]
    if kind == "skip":
        return
    if kind == "stop":
        code.emit(("stop",))
        return
    action = ADDED[kind]
    action(code, s)


def add_set(code, s):
    add_expression(code, s[2])
    add_storing(code, s[1])


def add_give(code, s):
    add_expression(code, s[2])
    code.emit(("give", s[1]))


def add_take(code, s):
    _, c, target = s
    k = add_preparing(code, target)
    code.emit(("take", c))
    add_finishing(code, target, k)


def add_fork(code, s):
    # The lists are copied, because whoever has the thread may change them later.
    code.emit(("fork", [(t, list(takes)) for t, takes in s[1]]))


def add_seq(code, s):
    for part in s[1]:
        add_statement(code, part)


def add_if(code, s):
    _, e, first, second = s
    add_expression(code, e)
    to_second = code.leave()
    add_statement(code, first)
    to_end = code.leave()
    code.jump_here("jzero", to_second)
    add_statement(code, second)
    code.jump_here("jump", to_end)


def add_repeat(code, s):
    _, e, many, inner = s
    i = code.new_place()
    code.emit(("push", 0))
    code.emit(("store", i))
    head = code.here()
    code.emit(("load", i))
    code.emit(("push", many))
    code.emit(("calc", "<"))
    to_end = code.leave()
    add_expression(code, e)
    also_to_end = code.leave()
    add_statement(code, inner)
    code.emit(("load", i))
    code.emit(("push", 1))
    code.emit(("calc", "+"))
    code.emit(("store", i))
    code.emit(("jump", head))
    code.jump_here("jzero", to_end)
    code.jump_here("jzero", also_to_end)


def add_alt(code, s):
    guards = [add_guard(code, row[0]) for row in s[1]]
    prepared = [add_guarded(code, k, row[2]) for k, row in zip(guards, s[1])]
    either = code.leave()
    rows = []
    to_end = []
    for index, (_, c, target, part) in enumerate(s[1]):
        rows.append((c, guards[index], code.here()))
        add_finishing(code, target, prepared[index])
        add_statement(code, part)
        to_end.append(code.leave())
    code.fill(either, ("either", rows))
    for address in to_end:
        code.jump_here("jump", address)


def add_guard(code, guard):
    """Adds what keeps the value of a guard, and returns its place."""
    add_expression(code, ("num", 1) if guard is None else guard)
    k = code.new_place()
    code.emit(("store", k))
    return k


def add_guarded(code, k, target):
    """Adds what prepares a target if its guard, at place k, is not 0. Returns as `add_preparing`."""
    code.emit(("load", k))
    behind = code.leave()
    prepared = add_preparing(code, target)
    code.jump_here("jzero", behind)
    return prepared


ADDED = {
    "set": add_set,
    "give": add_give,
    "take": add_take,
    "fork": add_fork,
    "seq": add_seq,
    "if": add_if,
    "repeat": add_repeat,
    "alt": add_alt,
}
