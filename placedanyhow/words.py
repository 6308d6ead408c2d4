"""The values of core expressions: words, or None for a fault."""

WORDS = 65536


def value(e, cells):
    """The value of a core expression with the words of the cells, or None if it faults."""
    kind = e[0]
    if kind == "num":
        return e[1]
    if kind == "cell" or kind == "at":
        number = place(e, cells)
        return None if number is None else cells[number]
    if kind == "neg" or kind == "not":
        return operate(kind, value(e[1], cells))
    left = value(e[1], cells)
    right = value(e[2], cells)
    # Both operands are always evaluated: a fault of one decides, whatever the other one is.
    if left is None or right is None:
        return None
    return calculate(kind, left, right)


def place(target, cells):
    """The number of the cell of a target, or None if its index faults or is not below the size."""
    if target[0] == "cell":
        return target[1]
    _, first, size, e = target
    index = value(e, cells)
    if index is None or index >= size:
        return None
    return first + index


def operate(operator, operand):
    """The value of an operation with one operand, or None if the operand is a fault."""
    if operand is None:
        return None
    if operator == "neg":
        return -operand % WORDS
    return bit(operand == 0)


def calculate(operator, left, right):
    """The value of an operation with two words, or None if it faults."""
    if operator == "+":
        return (left + right) % WORDS
    if operator == "-":
        return (left - right) % WORDS
    if operator == "*":
        return left * right % WORDS
    if operator == "/" or operator == "mod":
        return divide(operator, left, right)
    return bit(holds(operator, left, right))


def divide(operator, left, right):
    if right == 0:
        return None
    return left // right if operator == "/" else left % right


def holds(operator, left, right):
    """Whether a test, "and" or "or" of two words holds."""
    if operator == "and":
        return left != 0 and right != 0
    if operator == "or":
        return left != 0 or right != 0
    if operator == "==":
        return left == right
    if operator == "!=":
        return left != right
    if operator == "<":
        return left < right
    return left <= right


def bit(truth):
    return 1 if truth else 0
