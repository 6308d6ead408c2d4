"""Parts of cores, and what performs redexes, for several tests."""

from placedanyhow.redexes import event, perform, redexes
from placedanyhow.states import initial
from tests.support import frozen, is_plain

SKIP = ("skip",)
STOP = ("stop",)
NOTHING = ("seq", [])
FAULT = ("/", ("num", 1), ("num", 0))


def num(n):
    return ("num", n)


def cell(k):
    return ("cell", k)


def at(first, size, e):
    return ("at", first, size, e)


def put(target, e):
    return ("set", target, e)


def give(c, e):
    return ("give", c, e)


def take(c, target):
    return ("take", c, target)


def seq(*parts):
    return ("seq", list(parts))


def par(*rows):
    return ("par", list(rows))


def fork(*rows):
    return ("fork", list(rows))


def alt(*rows):
    return ("alt", list(rows))


def when(e, first, second=NOTHING):
    return ("if", e, first, second)


def repeat(n, e, s):
    return ("repeat", e, n, s)


def performed(test, core, inputs, state, redex):
    """The state after a redex, and a test that nothing that was passed is changed by it."""
    passed = (core, inputs, state, redex)
    before = frozen(passed)
    test.assertIn(redex, redexes(core, inputs, state))
    event(core, inputs, state, redex)
    found = perform(core, inputs, state, redex)
    test.assertEqual(frozen(passed), before)
    test.assertIs(type(found), tuple)
    test.assertTrue(is_plain(found))
    return found


def reached(test, core, inputs, *performed_redexes):
    """The state after redexes, from the start on."""
    state = initial(core)
    for redex in performed_redexes:
        state = performed(test, core, inputs, state, redex)
    return state


def step(*threads):
    return [("step", t) for t in threads]
