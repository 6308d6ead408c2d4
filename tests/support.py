"""What several tests need."""

import unittest

from placedanyhow.errors import RuleError, TextError
from placedanyhow.names import expand
from placedanyhow.parsing import parse_program
from placedanyhow.work import prepare


def outcome(function, *args):
    """What a function returns, or the error and what it keeps: ("TextError", line) and the like."""
    try:
        return function(*args)
    except TextError as e:
        return ("TextError", e.line)
    except RuleError as e:
        return ("RuleError", e.rule)


def text_error(line):
    return ("TextError", line)


def rule_error(rule):
    return ("RuleError", rule)


def is_plain(result):
    """Whether a result consists of integers (no booleans), strings, None, lists and tuples."""
    if type(result) in (list, tuple):
        return all(is_plain(part) for part in result)
    return result is None or type(result) in (int, str)


def frozen(part):
    """A copy of a value that tells lists from tuples and is not changed with the value."""
    if isinstance(part, (list, tuple)):
        return (type(part).__name__, tuple(frozen(inner) for inner in part))
    if isinstance(part, dict):
        return ("dict", tuple((key, frozen(part[key])) for key in part))
    return (type(part).__name__, part)


def expanded(text):
    """The core of a text, or its error."""
    return outcome(lambda: expand(parse_program(text)))


def prepared(text):
    return outcome(prepare, text)


def parsed(text):
    return outcome(parse_program, text)


def parsed_expression(text):
    """The expression of a text, by a program that gives it."""
    program = parse_program("program p main { give " + text + " to c; }")
    return program[5][2][0][1]


def body_of(text):
    """The parsed body of a program with this text behind "main"."""
    return parse_program("program p main " + text)[5]


def statements_of(text):
    """The parsed statements of a text."""
    return body_of("{ " + text + " }")[2]


class RuleTest(unittest.TestCase):
    """Whether texts keep the rules of point 5.8, and which rule they break."""

    def keeps(self, text):
        self.assertEqual(expanded(text)[0], "core", text)

    def breaks(self, rule, text):
        self.assertEqual(expanded(text), rule_error(rule), text)

    def body_keeps(self, text):
        self.keeps("program p in a, f; out b; main { " + text + " }")

    def body_breaks(self, rule, text):
        self.breaks(rule, "program p in a, f; out b; main { " + text + " }")
