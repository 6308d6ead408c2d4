"""Workspaces: started threads, and the instructions that concern only the thread."""

from placedanyhow.copies import copied
from placedanyhow.words import calculate, operate


class Workspace:
    """A started thread.

    - number, parent: its number, and that of its parent or None.
    - takes, gives: the cells that it takes and gives; the first places hold the takes.
    - code: the list of its instructions.
    - cells: the list of the words at its places.
    - stack: the list of the words on its stack, the top last.
    - at: the address of the next instruction.
    - state: "ready", "waiting", "done", "stopped" or "faulted".
    """

    def __init__(self, number, thread, values):
        parent, places, takes, gives, code = thread
        self.number = number
        self.parent = parent
        self.takes = list(takes)
        self.gives = list(gives)
        self.code = copied(code)
        self.cells = list(values) + [0] * (places - len(values))
        self.stack = []
        self.at = 0
        self.state = "ready"

    def cell(self, number):
        """The word of a cell of the program, which is one of the takes."""
        return self.cells[self.takes.index(number)]

    def store(self, number, word):
        """Stores a word into a cell of the program, which is one of the takes."""
        self.cells[self.takes.index(number)] = word

    def advance(self):
        """Executes the instruction at the address as `step` does, and returns it."""
        instruction = self.code[self.at]
        self.at += 1
        self.step(instruction)
        return copied(instruction)

    def step(self, instruction):
        """Executes an instruction if it concerns only the thread, and tells whether it does."""
        if instruction[0] not in STEPS:
            return False
        action = STEPS[instruction[0]]
        action(self, instruction)
        return True


# The functions of STEPS execute an instruction in a workspace. They test for faults before they
# change a place, because the places stay as they were.

def step_push(work, instruction):
    work.stack.append(instruction[1])


def step_load(work, instruction):
    work.stack.append(work.cells[instruction[1]])


def step_store(work, instruction):
    work.cells[instruction[1]] = work.stack.pop()


def step_loadx(work, instruction):
    _, k, size = instruction
    if index_fits(work, size):
        index = work.stack.pop()
        work.stack.append(work.cells[k + index])


def step_storex(work, instruction):
    _, k, size = instruction
    if index_fits(work, size):
        index = work.stack.pop()
        work.cells[k + index] = work.stack.pop()


def step_check(work, instruction):
    index_fits(work, instruction[1])


def index_fits(work, size):
    """Whether the index on top is less than a size; the thread is faulted if it is not."""
    if work.stack[-1] >= size:
        work.state = "faulted"
        return False
    return True


def step_operation(work, instruction):
    push_value(work, operate(instruction[0], work.stack.pop()))


def step_calc(work, instruction):
    second = work.stack.pop()
    first = work.stack.pop()
    push_value(work, calculate(instruction[1], first, second))


def push_value(work, worth):
    """Pushes the value of an operation; the thread is faulted if it is None."""
    if worth is None:
        work.state = "faulted"
    else:
        work.stack.append(worth)


def step_jump(work, instruction):
    work.at = instruction[1]


def step_jzero(work, instruction):
    if work.stack.pop() == 0:
        work.at = instruction[1]


def step_stop(work, instruction):
    work.state = "stopped"


STEPS = {
    "push": step_push,
    "load": step_load,
    "store": step_store,
    "loadx": step_loadx,
    "storex": step_storex,
    "check": step_check,
    "neg": step_operation,
    "not": step_operation,
    "calc": step_calc,
    "jump": step_jump,
    "jzero": step_jzero,
    "stop": step_stop,
}
