"""Processors: their memories, homes and threads, which run in turns."""

from placedanyhow.copies import copied
from placedanyhow.images import read_image
from placedanyhow.loader import Memory
from placedanyhow.waiting import Asking, Joining
from placedanyhow.workspaces import Workspace


class Processor:
    """A processor of a plan.

    - at: its number.
    - places, channel_homes: the processors of all threads, and those of the homes of all channels.
    - homes: the homes that are placed on it.
    - turn: the number of steps in a turn; steps: those that the first thread has made in its turn.
    - memory: its memory; threads: the threads of its image, or None until the memory is loaded.
    - early: the messages that came before the memory was loaded.
    - work: a dict from the numbers of the threads that were started to their workspaces.
    - row: the numbers of the ready threads.
    - asking, joining: dicts from the threads that wait for a word, or for threads that they
      started, to what they wait for.
    - outgoing: the pairs (processor, message) that are not sent yet.
    """

    def __init__(self, at, plan, homes, turn):
        self.at = at
        self.places = list(plan.threads)
        self.channel_homes = list(plan.homes)
        self.homes = homes
        self.turn = turn
        self.steps = 0
        self.memory = Memory()
        self.threads = None
        self.early = []
        self.work = {}
        self.row = []
        self.asking = {}
        self.joining = {}
        self.outgoing = []

    def receive(self, message):
        """Receives a message for this processor."""
        if message[0] == "load":
            _, first, words, total = message
            if self.memory.load(first, words, total):
                self.begin()
        elif self.threads is None:
            self.early.append(copied(message))
        else:
            self.handle(message)

    def tick(self):
        """Makes one step, if a thread is ready."""
        if not self.row:
            return
        work = self.work[self.row[0]]
        instruction = work.advance()
        if instruction[0] in INSTRUCTIONS:
            action = INSTRUCTIONS[instruction[0]]
            action(self, work, instruction)
        self.steps += 1
        if work.state == "ready" and self.steps < self.turn:
            return
        first = self.row.pop(0)
        self.steps = 0
        if work.state == "ready":
            self.row.append(first)

    def sent(self):
        """Removes the outgoing messages, pairs (processor, message), and returns them in order."""
        found = self.outgoing
        self.outgoing = []
        return found

    def begin(self):
        """Begins to run, because the memory is loaded."""
        self.threads = read_image(self.memory.words)
        if 0 in self.threads:
            takes = self.threads[0][2]
            self.start(0, [0] * len(takes))
        for message in self.early:
            self.handle(message)

    def handle(self, message):
        """Handles a message to a thread, or to a home on this processor."""
        if message[0] in ANSWERS:
            action = ANSWERS[message[0]]
            action(self, message)
            return
        for t, answer in self.homes.handle(message):
            self.send_to_thread(t, answer)

    def start(self, t, words):
        """Starts a thread with the words of its takes."""
        self.work[t] = Workspace(t, self.threads[t], words)
        self.row.append(t)

    def go_on(self, t):
        """Lets a thread that has waited go on."""
        work = self.work[t]
        work.state = "ready"
        self.row.append(t)

    def send_to_thread(self, t, message):
        self.outgoing.append((self.places[t], message))

    def send_to_home(self, c, message):
        self.outgoing.append((self.channel_homes[c], message))

    def started_by(self, t):
        """The list of the threads that a thread has started and waits for."""
        if t not in self.joining:
            return []
        return list(self.joining[t].threads)


# The functions of INSTRUCTIONS execute what an instruction does beyond the thread that made the
# step, in whose workspace the address is already the next one.

def execute_give(processor, work, instruction):
    c = instruction[1]
    work.state = "waiting"
    processor.send_to_home(c, ("offer", c, work.stack.pop(), work.number))


def execute_take(processor, work, instruction):
    ask(processor, work, [(instruction[1], work.at)])


def execute_either(processor, work, instruction):
    rows = [(c, p) for c, k, p in instruction[1] if work.cells[k] != 0]
    if rows:
        ask(processor, work, rows)
    else:
        work.state = "stopped"


def ask(processor, work, rows):
    """Lets a thread wait for a word from the channels of rows (c, p)."""
    work.state = "waiting"
    processor.asking[work.number] = Asking(rows)
    for c, _ in rows:
        processor.send_to_home(c, ("ask", c, work.number))


def execute_fork(processor, work, instruction):
    rows = instruction[1]
    if not rows:
        return
    work.state = "waiting"
    processor.joining[work.number] = Joining([t for t, _ in rows])
    for t, takes in rows:
        processor.send_to_thread(t, ("start", t, [work.cell(k) for k in takes]))


def execute_end(processor, work, instruction):
    work.state = "done"
    if work.parent is not None:
        words = [work.cell(k) for k in work.gives]
        processor.send_to_thread(work.parent, ("ended", work.parent, list(work.gives), words))


INSTRUCTIONS = {
    "give": execute_give,
    "take": execute_take,
    "either": execute_either,
    "fork": execute_fork,
    "end": execute_end,
}


# The functions of ANSWERS handle a message to a thread.

def on_start(processor, message):
    _, t, words = message
    processor.start(t, words)


def on_ended(processor, message):
    _, parent, gives, words = message
    work = processor.work[parent]
    for k, word in zip(gives, words):
        work.store(k, word)
    joining = processor.joining[parent]
    joining.missing -= 1
    if joining.missing == 0:
        del processor.joining[parent]
        processor.go_on(parent)


def on_taken(processor, message):
    processor.go_on(message[1])


def on_offered(processor, message):
    _, offering, t = message
    if t not in processor.asking:
        return
    asking = processor.asking[t]
    if asking.accepted:
        return
    asking.accepted = True
    for c, _ in asking.rows:
        processor.send_to_home(c, ("accept" if c == offering else "cancel", c, t))


def on_word(processor, message):
    _, c, word, t = message
    asking = processor.asking[t]
    asking.word = word
    asking.address = [p for channel, p in asking.rows if channel == c][0]
    answered(processor, t, asking)


def on_cancelled(processor, message):
    t = message[2]
    answered(processor, t, processor.asking[t])


def answered(processor, t, asking):
    """Counts an answer to a thread that asks, which goes on after the last one."""
    asking.missing -= 1
    if asking.missing == 0:
        del processor.asking[t]
        work = processor.work[t]
        work.stack.append(asking.word)
        work.at = asking.address
        processor.go_on(t)


ANSWERS = {
    "start": on_start,
    "ended": on_ended,
    "taken": on_taken,
    "offered": on_offered,
    "word": on_word,
    "cancelled": on_cancelled,
}
