"""A simple machine for the code of threads: one instruction after the other, words meet at once.

It follows point 14.1 for the instructions, and point 13.1 for what threads exchange.
"""

from placedanyhow.compiling import compile_thread
from placedanyhow.redexes import event, perform, redexes
from placedanyhow.states import initial
from placedanyhow.threads import threads


class Fault(Exception):
    """An instruction faults."""


def calculate(operator, a, b):
    if operator in ("/", "mod") and b == 0:
        raise Fault
    return {
        "+": lambda: (a + b) % 65536, "-": lambda: (a - b) % 65536, "*": lambda: a * b % 65536,
        "/": lambda: a // b, "mod": lambda: a % b, "and": lambda: int(a > 0 and b > 0), "or": lambda: int(a > 0 or b > 0),
        "==": lambda: int(a == b), "!=": lambda: int(a != b), "<": lambda: int(a < b), "<=": lambda: int(a <= b),
    }[operator]()


class Started:
    """A started thread."""

    def __init__(self, places, code, words):
        self.places = words + [0] * (places - len(words))
        self.code = code
        self.stack = []
        self.at = 0
        self.state = "ready"
        self.offer = None
        self.rows = None
        self.forked = []


class Executing:
    def __init__(self, core, inputs, rng):
        self.kinds = core[2]
        self.rng = rng
        self.threads = threads(core)
        self.code = [compile_thread(row) for row in self.threads]
        self.cells = core[1]
        ins = [c for c, kind in enumerate(self.kinds) if kind == "in"]
        self.inputs = {c: list(words) for c, words in zip(ins, inputs)}
        self.outputs = {c: [] for c, kind in enumerate(self.kinds) if kind == "out"}
        self.events = []
        self.work = {}
        self.start(0, [0] * len(self.threads[0][1]))

    def start(self, t, words):
        places, code = self.code[t]
        assert places >= len(words)
        self.work[t] = Started(places, code, words)

    def run(self):
        """Executes instructions of drawn threads until nothing can happen."""
        while True:
            ready = [t for t in sorted(self.work) if self.work[t].state == "ready"]
            meetings = self.meetings()
            if not ready and not meetings:
                return
            chosen = self.rng.choice(ready + meetings)
            if isinstance(chosen, tuple):
                self.meet(*chosen)
            else:
                self.step(chosen)

    def meetings(self):
        """What words can go: (c, giver or None, taker or None)."""
        found = []
        for t, one in sorted(self.work.items()):
            if one.offer is not None and self.kinds[one.offer[0]] == "out":
                found.append((one.offer[0], t, None))
            for c, _ in one.rows or []:
                if self.inputs.get(c):
                    found.append((c, None, t))
                found.extend(
                    (c, g, t) for g, other in sorted(self.work.items())
                    if other.offer is not None and other.offer[0] == c
                )
        return found

    def meet(self, c, giver, taker):
        if giver is None:
            word = self.inputs[c].pop(0)
        else:
            word = self.work[giver].offer[1]
            self.work[giver].offer = None
            self.work[giver].state = "ready"
        self.events.append((c, word))
        if taker is None:
            self.outputs[c].append(word)
            return
        one = self.work[taker]
        one.at = dict(one.rows)[c]
        one.rows = None
        one.stack.append(word)
        one.state = "ready"

    def step(self, t):
        one = self.work[t]
        instruction = one.code[one.at]
        one.at += 1
        try:
            self.execute(t, one, *instruction)
        except Fault:
            one.state = "faulted"

    def execute(self, t, one, name, *numbers):
        stack = one.stack
        if name == "push":
            stack.append(numbers[0])
        elif name == "load":
            stack.append(one.places[numbers[0]])
        elif name == "store":
            one.places[numbers[0]] = stack.pop()
        elif name in ("loadx", "storex", "check"):
            self.index(one, name, numbers)
        elif name == "neg":
            stack.append(-stack.pop() % 65536)
        elif name == "not":
            stack.append(int(stack.pop() == 0))
        elif name == "calc":
            b = stack.pop()
            stack.append(calculate(numbers[0], stack.pop(), b))
        elif name == "jump" or name == "jzero" and stack.pop() == 0:
            one.at = numbers[0]
        elif name != "jzero":
            self.leave(t, one, name, numbers)

    def index(self, one, name, numbers):
        k = one.stack[-1]
        if k >= numbers[-1]:
            raise Fault
        if name == "loadx":
            one.stack[-1] = one.places[numbers[0] + k]
        elif name == "storex":
            one.stack.pop()
            one.places[numbers[0] + k] = one.stack.pop()

    def leave(self, t, one, name, numbers):
        """An instruction after which the thread is not ready, or others are started or go on."""
        one.state = "waiting"
        if name == "give":
            one.offer = (numbers[0], one.stack.pop())
        elif name == "take":
            one.rows = [(numbers[0], one.at)]
        elif name == "either":
            one.rows = [(c, p) for c, k, p in numbers[0] if one.places[k] != 0]
            if not one.rows:
                one.state = "stopped"
        elif name == "fork":
            one.forked = [other for other, _ in numbers[0]]
            for other, takes in numbers[0]:
                self.start(other, [one.places[self.threads[t][1].index(k)] for k in takes])
            one.state = "waiting" if one.forked else "ready"
        elif name == "stop":
            one.state = "stopped"
        else:
            assert name == "end" and one.at == len(one.code) and not one.stack
            one.state = "done"
            self.end(t)

    def end(self, t):
        parent, takes, gives, _ = self.threads[t]
        if parent is None:
            return
        above = self.work[parent]
        for k in gives:
            above.places[self.threads[parent][1].index(k)] = self.work[t].places[takes.index(k)]
        above.forked.remove(t)
        if not above.forked:
            above.state = "ready"

    def ends(self):
        return [self.work[t].state if t in self.work else "idle" for t in range(len(self.threads))]

    def all_outputs(self):
        return [self.outputs[c] for c in sorted(self.outputs)]

    def words(self):
        """The words of all cells, from the threads that own them now."""
        found = [0] * self.cells
        self.collect(0, found)
        return found

    def collect(self, t, found):
        for k, word in zip(self.threads[t][1], self.work[t].places):
            if t == 0 or k in self.threads[t][2]:
                found[k] = word
        # The words of a thread that has ended were given to its parent, so only the others own cells.
        for other in self.work[t].forked:
            self.collect(other, found)


def followed(core, inputs, events):
    """The state of the run that follows the events (silent redexes first), or None."""
    state = initial(core)
    left = list(events)
    while True:
        found = redexes(core, inputs, state)
        silent = [redex for redex in found if event(core, inputs, state, redex) is None]
        if silent:
            state = perform(core, inputs, state, silent[0])
            continue
        if not left:
            return state
        fitting = [redex for redex in found if event(core, inputs, state, redex) == left[0]]
        if not fitting:
            return None
        state = perform(core, inputs, state, fitting[0])
        left.pop(0)
