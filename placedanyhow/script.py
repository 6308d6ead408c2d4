"""Scripts: commands that load programs, run them and machines, and show the results."""

from placedanyhow.commands import read_commands
from placedanyhow.errors import PlanError, RuleError, TextError
from placedanyhow.session import Session
from placedanyhow.usage import threads_of
from placedanyhow.waits import chain, waits
from placedanyhow.work import prepare


def run_script(script):
    """The list of the output lines of a script. Raises CommandError."""
    session = Session()
    lines = []
    for name, argument in read_commands(script):
        lines.extend(execute(session, name, argument))
    return lines


def execute(session, name, argument):
    """Executes a command, and returns the list of its output lines."""
    if name == "load":
        return [load(session, argument)]
    if session.core is None:
        return []
    if name in SHOWING:
        if session.result is None:
            return []
        action = SHOWING[name]
        return action(session.core, session.result)
    action = SETTING[name]
    return action(session, argument)


def load(session, text):
    session.begin(None)
    try:
        core = prepare(text)
    except TextError as wrong:
        return f"error TextError {wrong.line}"
    except RuleError as broken:
        return f"error RuleError {broken.rule}"
    session.begin(core)
    return f"loaded {len(threads_of(core))} {len(core[2])} {core[1]}"


# The functions of SETTING execute a command with its argument, and return its output lines.

def set_input(session, numbers):
    k = numbers[0]
    if k < len(session.inputs):
        session.inputs[k] = numbers[1:]
    return []


def set_network(session, network):
    session.network = network
    return []


def set_places(session, numbers):
    session.places = numbers
    return []


def set_homes(session, numbers):
    session.homes = numbers
    return []


def set_delays(session, numbers):
    session.delays = numbers
    return []


def set_turn(session, numbers):
    session.turn = numbers[0]
    return []


def make_run(session, choices):
    steps, events = session.run(choices)
    return [f"run {steps} {events}"]


def make_machine(session, numbers):
    try:
        machine = session.run_machine(numbers[0])
    except PlanError as refused:
        return [f"error PlanError {refused.reason}"]
    told = "quiet" if machine.quiet() else "busy"
    return [f"{told} {machine.now}"]


SETTING = {
    "input": set_input,
    "network": set_network,
    "places": set_places,
    "homes": set_homes,
    "delays": set_delays,
    "turn": set_turn,
    "run": make_run,
    "machine": make_machine,
}


# The functions of SHOWING return the output lines that show a result.

def show_outputs(core, result):
    return [joined(["out", k] + words) for k, words in enumerate(result.outputs)]


def show_ends(core, result):
    return [joined(["ends"] + result.ends)]


def show_cells(core, result):
    if result.cells is None:
        return []
    return [joined(["cells"] + result.cells)]


def show_events(core, result):
    return [joined(["events"] + [f"{c}:{word}" for c, word in result.events])]


def show_chains(core, result):
    if result.state is None:
        return []
    return [chain_line(core, result.state, t) for t, _ in waits(core, result.state)]


def chain_line(core, state, t):
    threads, end = chain(core, state, t)
    return joined(threads + ["-" if part is None else part for part in end])


def joined(parts):
    """The line with these parts, numbers and strings."""
    return " ".join([str(part) for part in parts])


SHOWING = {
    "outputs": show_outputs,
    "ends": show_ends,
    "cells": show_cells,
    "events": show_events,
    "chains": show_chains,
}
