"""Machines: the processors and links of a plan, which run a core."""

from placedanyhow.homes import Home, Homes
from placedanyhow.images import build_images
from placedanyhow.links import Links
from placedanyhow.loader import packets
from placedanyhow.processor import Processor
from placedanyhow.states import rank

HOST = 0


class Machine:
    """A machine for a core and a plan.

    - now: the tick.
    - log: the list of the events so far.
    - size: the number of the cells of the core.
    - places: the processors of the threads; hops: the next hops of the network.
    - out_homes: the homes of the "out" channels.
    - processors: the processors.
    - links: the links, with messages (goal, message).
    - local: a list for each processor of the messages to itself that arrive in the next tick.
    """

    def __init__(self, core, plan, inputs, *, delays, turn):
        self.now = 0
        self.log = []
        self.size = core[1]
        self.places = list(plan.threads)
        self.hops = [list(row) for row in plan.hops]
        homes = [home_of(core, inputs, c) for c in range(len(core[2]))]
        self.out_homes = [home for home in homes if home.kind == "out"]
        self.processors = []
        for p in range(plan.processors):
            rows = {c: home for c, home in enumerate(homes) if plan.homes[c] == p}
            self.processors.append(Processor(p, plan, Homes(rows, self.log), turn))
        self.links = Links(delays)
        self.local = [[] for _ in self.processors]
        for p, image in enumerate(build_images(core, plan)):
            for goal, message in packets(p, image):
                self.send(HOST, goal, message)

    def advance(self):
        """Performs one tick and returns True, or returns False if the machine is quiet."""
        if self.quiet():
            return False
        self.now += 1
        arriving = self.local
        self.local = [[] for _ in self.processors]
        for p, messages in enumerate(arriving):
            for message in messages:
                self.processors[p].receive(message)
        for p, (goal, message) in self.links.due(self.now):
            self.arrive(p, goal, message)
        self.send_outgoing()
        for processor in self.processors:
            processor.tick()
        self.send_outgoing()
        return True

    def run(self, ticks):
        """Advances at most so many times, and tells whether the machine is quiet then."""
        for _ in range(ticks):
            if not self.advance():
                return True
        return self.quiet()

    def quiet(self):
        """Whether no message is local or on a link, and no thread is ready."""
        for messages in self.local:
            if messages:
                return False
        for processor in self.processors:
            if processor.row:
                return False
        return self.links.empty()

    def outputs(self):
        """The list of the lists of the words of the "out" channels."""
        return [list(home.outputs) for home in self.out_homes]

    def ends(self):
        """The list of the ends of the threads."""
        return [self.end_of(t) for t in range(len(self.places))]

    def cells(self):
        """The list of the words of all cells, for a machine that is quiet."""
        return [self.word_of(k) for k in range(self.size)]

    def memory(self, at):
        """The list of the words in the memory of a processor."""
        return list(self.processors[at].memory.words)

    def send(self, p, goal, message):
        """Sends a message from a processor towards another one, or to itself."""
        if goal == p:
            self.local[p].append(message)
        else:
            self.links.send(self.now, p, self.hops[p][goal], (goal, message))

    def arrive(self, p, goal, message):
        """Lets a message from a link be received, or sends it on."""
        if goal == p:
            self.processors[p].receive(message)
        else:
            self.send(p, goal, message)

    def send_outgoing(self):
        for p, processor in enumerate(self.processors):
            for goal, message in processor.sent():
                self.send(p, goal, message)

    def work_of(self, t):
        """The workspace of a thread, or None if it was never started."""
        return self.processors[self.places[t]].work.get(t)

    def end_of(self, t):
        work = self.work_of(t)
        if work is None:
            return "idle"
        return "running" if work.state == "ready" else work.state

    def word_of(self, k):
        """The word of a cell, from the workspace that owns it."""
        owner = self.work_of(0)
        if owner is None or k not in owner.takes:
            return 0
        inner = self.giver_of(owner, k)
        while inner is not None:
            owner = inner
            inner = self.giver_of(owner, k)
        return owner.cell(k)

    def giver_of(self, work, k):
        """The workspace of the thread that gives a cell, of those for which a thread waits, or None."""
        t = work.number
        for other in self.processors[self.places[t]].started_by(t):
            inner = self.work_of(other)
            if inner is not None and k in inner.gives:
                return inner
        return None


def home_of(core, inputs, c):
    """The home of a channel of a core."""
    kind = core[2][c]
    return Home(kind, inputs[rank(core, c)] if kind == "in" else [])
