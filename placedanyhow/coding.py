"""Instructions as words."""

from placedanyhow.errors import CodeError

# The names of the instructions, in the order of their opcodes.
NAMES = (
    "push", "load", "store", "loadx", "storex", "check", "neg", "not", "calc",
    "jump", "jzero", "give", "take", "either", "fork", "end", "stop",
)
OPERATORS = ("+", "-", "*", "/", "mod", "and", "or", "==", "!=", "<", "<=")

# How many numbers follow each opcode, for all instructions but "calc", "either" and "fork".
NUMBERS = {
    "push": 1, "load": 1, "store": 1, "loadx": 2, "storex": 2, "check": 1, "neg": 0, "not": 0,
    "jump": 1, "jzero": 1, "give": 1, "take": 1, "end": 0, "stop": 0,
}
ROW = 3


def encode(instruction):
    """The list of the words of an instruction."""
    name = instruction[0]
    found = [NAMES.index(name)]
    if name == "calc":
        found.append(OPERATORS.index(instruction[1]))
    elif name == "either":
        found.append(len(instruction[1]))
        for row in instruction[1]:
            found.extend(row)
    elif name == "fork":
        found.append(len(instruction[1]))
        for t, takes in instruction[1]:
            found.extend([t, len(takes)])
            found.extend(takes)
    else:
        found.extend(instruction[1:])
    return found


class Words:
    """A list of words that are taken one after the other, and the index of the next one."""

    def __init__(self, words):
        self.words = words
        self.at = 0

    def is_left(self):
        return self.at < len(self.words)

    def take(self):
        if not self.is_left():
            raise CodeError(len(self.words))
        self.at += 1
        return self.words[self.at - 1]

    def take_many(self, many):
        return [self.take() for _ in range(many)]


def decode(words):
    """The list of the instructions that a list of words stands for. Raises CodeError."""
    left = Words(words)
    found = []
    while left.is_left():
        found.append(take_instruction(left))
    return found


def take_instruction(left):
    first = left.at
    opcode = left.take()
    if opcode >= len(NAMES):
        raise CodeError(first)
    name = NAMES[opcode]
    if name == "calc":
        operator = left.take()
        if operator >= len(OPERATORS):
            raise CodeError(first)
        return ("calc", OPERATORS[operator])
    if name == "either":
        return ("either", [take_row(left) for _ in range(left.take())])
    if name == "fork":
        return ("fork", [take_branch(left) for _ in range(left.take())])
    return (name,) + tuple(left.take_many(NUMBERS[name]))


def take_row(left):
    """Takes a row of an "either"."""
    c, k, p = left.take_many(ROW)
    return (c, k, p)


def take_branch(left):
    """Takes a row of a "fork"."""
    t = left.take()
    return (t, left.take_many(left.take()))
