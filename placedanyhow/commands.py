"""Reading the commands of scripts."""

from placedanyhow.errors import CommandError
from placedanyhow.tokens import is_number

END_OF_TEXT = "."

# The fewest and the most arguments of each command whose arguments are all numbers; None if there
# may be any number of them.
COUNTS = {
    "input": (1, None),
    "places": (1, None),
    "homes": (1, None),
    "delays": (1, None),
    "turn": (1, 1),
    "run": (0, None),
    "machine": (1, 1),
    "outputs": (0, 0),
    "ends": (0, 0),
    "cells": (0, 0),
    "events": (0, 0),
    "chains": (0, 0),
}
# The least and the greatest argument of commands that do not take every number.
LEAST = {"delays": 1, "turn": 1}
GREATEST = {"machine": 4096}


def read_commands(script):
    """The list of the commands (name, argument) of a script. Raises CommandError.

    The argument of "load" is a program text, that of "network" a network, and that of the other
    commands the list of their numbers.
    """
    lines = script.split("\n")
    found = []
    at = 0
    while at < len(lines):
        words = [word for word in lines[at].split(" ") if word != ""]
        if words == ["load"]:
            end = text_end(lines, at)
            found.append(("load", "\n".join(lines[at + 1:end])))
            at = end
        elif words and not words[0].startswith("#"):
            found.append(read_command(words, at + 1))
        at += 1
    return found


def text_end(lines, at):
    """The index of the line that ends the program text of a "load" at an index."""
    for index in range(at + 1, len(lines)):
        if lines[index] == END_OF_TEXT:
            return index
    raise CommandError(at + 1)


def read_command(words, line):
    """The command that the words of a line are."""
    name = words[0]
    if name == "network":
        return (name, read_network(words[1:], line))
    if name not in COUNTS:
        raise CommandError(line)
    fewest, most = COUNTS[name]
    numbers = [read_number(word, line) for word in words[1:]]
    if len(numbers) < fewest or most is not None and len(numbers) > most:
        raise CommandError(line)
    for number in numbers:
        if number < LEAST.get(name, 0) or number > GREATEST.get(name, number):
            raise CommandError(line)
    return (name, numbers)


def read_network(words, line):
    if not words:
        raise CommandError(line)
    processors = read_number(words[0], line)
    return (processors, [read_link(word, line) for word in words[1:]])


def read_link(word, line):
    ends = word.split("-")
    if len(ends) != 2:
        raise CommandError(line)
    return (read_number(ends[0], line), read_number(ends[1], line))


def read_number(word, line):
    if word == "" or not is_number(word):
        raise CommandError(line)
    return int(word)
