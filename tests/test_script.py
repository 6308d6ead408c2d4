"""Points 26.1 to 26.3: scripts."""

import random
import unittest

from placedanyhow.errors import PlacedError
from placedanyhow.machine import Machine
from placedanyhow.meaning import run, steps
from placedanyhow.placement import make_plan, spread
from placedanyhow.script import run_script
from placedanyhow.usage import threads_of
from placedanyhow.waits import chain, waits
from placedanyhow.work import prepare
from tests.networks import draw_delays, draw_network
from tests.programs import draw_text

COPY = "program p in a; out b; main { word x; repeat 3 while 1 { take a into x; give x + 1 to b; } }"
# Threads 1 and 2 meet on the inner channels 2 and 3; thread 0 gives in the end.
MEET = (
    "program p in a; out b; main { channel c; channel d; word x; word y; "
    "together { { take a into x; give x to c; take d into x; } { take c into y; give y * 2 to d; } } give x to b; }"
)
EMPTY = "program p main { skip; }"
RING = (
    "program p main { channel c; channel d; word x; word y; "
    "together { { take c into x; give 1 to d; } { take d into y; give 2 to c; } } }"
)


def script(*lines):
    return run_script("\n".join(lines))


def loaded(text, *lines):
    """The output lines of a script that loads a text, without the line of "load"."""
    found = script("load", text, ".", *lines)
    assert found[0].startswith("loaded ")
    return found[1:]


class ScriptTest(unittest.TestCase):
    def check(self, lines, *expected):
        self.assertEqual(script(*lines), list(expected))

    def shows(self, text, lines, *expected):
        found = loaded(text, *lines)
        self.assertEqual(found, list(expected))
        self.assertTrue(all(type(line) is str for line in found))


class ExampleTest(ScriptTest):
    def test_the_examples(self):
        text = (
            "load\nprogram p in a; out b; main { word x; channel c; together { { take a into x; give x to c; } "
            "{ word y; take c into y; give y * 2 to b; } } take a into x; }\n.\n"
        )
        found = run_script(text + "input 0 21\nrun\noutputs\nends\nchains\nnetwork 2 0-1\nmachine 0\nends\nevents")
        self.assertEqual(found, [
            "loaded 3 3 2", "run 13 3", "out 0 42", "ends waiting done done", "0 dead 0 - input", "busy 0",
            "ends idle idle idle", "events",
        ])
        self.assertEqual(run_script("load\nprogram p main { x = 1; }\n.\nrun\nends"), ["error RuleError name"])


class LineTest(ScriptTest):
    def test_empty_scripts(self):
        for text in ("", "\n", " ", "\n\n  \n", "#", "# load", "   # x\n#\n"):
            self.assertEqual(run_script(text), [])

    def test_spaces(self):
        self.check(
            ["   load   ", EMPTY, ".", "run  ", "  run", " run    0     1  ", "  ends", "cells   ", "network   2   0-1 "],
            "loaded 1 0 0", "run 2 0", "run 2 0", "run 2 0", "ends done", "cells",
        )

    def test_comments_and_empty_lines(self):
        self.check(
            ["# first", "", "load", EMPTY, ".", "   ", "#", "   # run", "#run", "run", "# run", "", "ends", "  #last"],
            "loaded 1 0 0", "run 2 0", "ends done",
        )

    def test_newlines_at_the_end(self):
        for end in ("", "\n", "\n\n", "\n   ", "\n# x", "\n# x\n"):
            self.assertEqual(run_script("load\n" + EMPTY + "\n.\nrun" + end), ["loaded 1 0 0", "run 2 0"])
            self.assertEqual(run_script("load\n" + EMPTY + "\n." + end), ["loaded 1 0 0"])

    def test_a_long_script(self):
        lines = ["load", EMPTY, "."] + ["# " + "x" * 98] * 2500 + ["run"]
        self.check(lines, "loaded 1 0 0", "run 2 0")


class LoadTest(ScriptTest):
    def test_the_numbers(self):
        self.check(["load", COPY, "."], "loaded 1 2 1")
        self.check(["load", MEET, "."], "loaded 3 4 2")
        self.check(["load", EMPTY, "."], "loaded 1 0 0")
        self.check(["load", "program p main { array a[3]; channel c[2]; together { skip; { word x; } } }", "."], "loaded 3 2 4")

    def test_several_lines(self):
        self.check(["load", "program p", "out", "b;", "main {", "give 1 to b;", "}", ".", "run", "outputs"],
                   "loaded 1 1 0", "run 3 1", "out 0 1")

    def test_lines_that_look_like_commands(self):
        self.check(
            ["load", "program p out b; main {", "# load", "# .", "#run", "word run; word ends;", "run", "=", "4;",
             "ends = run;", "give", "ends", "to b; }", "# turn 0", ".", "run", "outputs"],
            "loaded 1 1 2", "run 5 1", "out 0 4",
        )
        self.check(["load", "run", ".", "ends"], "error TextError 1")
        self.check(["load", "load", EMPTY, "."], "error TextError 1")

    def test_a_line_with_a_dot_and_a_space(self):
        self.check(["load", EMPTY, " .", "."], "error TextError 2")
        self.check(["load", EMPTY, ". ", "run", "."], "error TextError 2")
        self.check(["load", EMPTY, "#", "# .", "#. ", "."], "loaded 1 0 0")
        self.check(["load", "..", "."], "error TextError 1")

    def test_empty_lines(self):
        self.check(["load", "", "", EMPTY, "", "", "."], "loaded 1 0 0")
        self.check(["load", "", "", "program p", "", "x", "."], "error TextError 5")
        self.check(["load", ".", "run"], "error TextError 1")
        self.check(["load", "", "", "."], "error TextError 2")

    def test_the_text_keeps_its_spaces(self):
        self.check(["load", "   program    p   ", "  main { skip; }  ", "."], "loaded 1 0 0")
        self.check(["load", "   program    p   ", "  main { skip; } x ", "."], "error TextError 2")

    def test_text_errors(self):
        for lines, line in (
            (["program p main { skip }"], 1), (["program p", "main {", "skip", "}"], 4), (["program p main {", ""], 2),
            (["program p main { x = 70000; }"], 1), (["program p", "", "main { skip; } $"], 3), (["run"], 1),
        ):
            self.check(["load", *lines, "."], f"error TextError {line}")

    def test_rule_errors(self):
        twice = "together { x = 1; x = 2; }"
        for rule, text in (
            ("name", "program p main { x = 1; }"),
            ("size", "program p main { array a[9]; }"),
            ("call", "program p main { call q(); }"),
            ("constant", "program p main { channel c[2]; give 1 to c[2]; }"),
            ("channel", "program p in a; main { give 1 to a; }"),
            ("either", "program p in a; main { word x; either { take a into x then { } take a into x then { } } }"),
            ("usage", "program p main { word x; " + twice + " }"),
            ("work", "program p main { repeat 3000 while 1 { skip; } }"),
        ):
            self.check(["load", text, "."], f"error RuleError {rule}")

    def test_what_a_load_sets_back(self):
        changes = [
            "input 0 7 8", "network 3 0-1 1-2", "places 1 2 0", "homes 0 0 1 2", "delays 5 6", "turn 1", "machine 4000",
        ]
        plain = loaded(MEET, "machine 4000", "cells", "events")
        # A machine of the usual plan on one processor, with the delay 1 and a turn of 4.
        machine = Machine(prepare(MEET), make_plan(prepare(MEET), (1, []), [0] * 3, [0] * 4), [[]], delays=[1], turn=4)
        machine.run(4000)
        self.assertEqual(plain[0], f"quiet {machine.now}")
        for middle in ([MEET], ["program"], ["program p main { x = 1; }"]):
            lines = changes + ["load", *middle, ".", "outputs", "ends", "events", "cells", "chains"]
            found = loaded(MEET, *lines, "load", MEET, ".", "outputs", "ends", "machine 4000", "cells", "events")
            self.assertEqual(found[2:], ["loaded 3 4 2"] + plain)

    def test_a_second_load_that_is_accepted(self):
        self.check(
            ["load", COPY, ".", "input 0 5", "run", "outputs", "load", EMPTY, ".", "outputs", "ends", "run", "ends", "outputs"],
            "loaded 1 2 1", "run 10 2", "out 0 6", "loaded 1 0 0", "run 2 0", "ends done",
        )

    def test_a_second_load_that_is_refused(self):
        for text, line in (("program", "error TextError 1"), ("program p main { x = 1; }", "error RuleError name")):
            self.check(
                ["load", COPY, ".", "input 0 5", "run", "load", text, ".", "outputs", "ends", "cells", "events", "chains",
                 "run", "machine 5", "input 0 1", "network 2 0-1", "places 0", "homes 0", "delays 1", "turn 2", "run 4"],
                "loaded 1 2 1", "run 10 2", line,
            )

    def test_a_load_behind_a_refused_one(self):
        self.check(["load", "x", ".", "run", "load", EMPTY, ".", "run"], "error TextError 1", "loaded 1 0 0", "run 2 0")

    def test_what_was_set_without_a_program_has_no_effect(self):
        self.check(
            ["turn 1", "network 0", "input 0 9", "load", COPY, ".", "machine 100", "events"],
            "loaded 1 2 1", loaded(COPY, "machine 100")[0], "events",
        )


class NoProgramTest(ScriptTest):
    COMMANDS = [
        "input 0 1", "network 2 0-1", "network 0", "places 1", "homes 1", "delays 3", "turn 2", "run", "run 1 2",
        "machine 0", "machine 9", "outputs", "ends", "cells", "events", "chains",
    ]

    def test_each_command(self):
        for command in self.COMMANDS:
            self.check([command])
            self.check(["load", "x", ".", command], "error TextError 1")
        self.check(self.COMMANDS)

    def test_without_a_result(self):
        for command in ("outputs", "ends", "cells", "events", "chains"):
            self.shows(MEET, [command])
            self.shows(MEET, ["input 0 1", "turn 2", command])
            self.shows(MEET, ["network 0", "machine 3", command], "error PlanError processors")


class RunTest(ScriptTest):
    def test_without_choices(self):
        self.shows(COPY, ["input 0 4 5", "run", "outputs", "ends", "cells", "events"],
                   f"run {steps(prepare(COPY), [[4, 5]], [])} 4", "out 0 5 6", "ends waiting", "cells 5", "events 0:4 1:5 0:5 1:6")

    def test_with_choices(self):
        core = prepare(MEET)
        rng = random.Random(151)
        for _ in range(20):
            choices = [rng.choice((0, 1, 2, 5, 65535)) for _ in range(rng.randrange(1, 9))]
            state, events = run(core, [[3]], choices)
            self.shows(
                MEET, ["input 0 3", "run " + " ".join(map(str, choices)), "events", "ends", "cells", "outputs"],
                f"run {steps(core, [[3]], choices)} 4", "events " + " ".join(f"{c}:{word}" for c, word in events),
                "ends done done done", "cells " + " ".join(map(str, state[0])), "out 0 6",
            )

    def test_the_choices_matter(self):
        text = (
            "program p in a, f; out b; main { word x; repeat 2 while 1 { either { take a into x then { } take f into x then { } }"
            " give x to b; } }"
        )
        lines = ["input 0 1 2", "input 1 3 4"]
        orders = set()
        for choices in ("", " 0", " 1", " 0 0 0 1", " 0 1", " 1 0 2", " 0 0 0 0 0 0 0 0 1"):
            orders.add(loaded(text, *lines, "run" + choices, "outputs")[1])
        self.assertGreater(len(orders), 2)

    def test_numbers_of_steps_and_events(self):
        self.shows("program p main { }", ["run"], "run 1 0")
        self.shows("program p out b; main { give 1 to b; give 2 to b; stop; }", ["run", "events"], "run 6 2", "events 0:1 0:2")

    def test_a_run_replaces_the_result(self):
        self.shows(COPY, ["run", "outputs", "input 0 1", "run", "outputs", "machine 0", "outputs", "run", "outputs"],
                   "run 4 0", "out 0", "run 10 2", "out 0 2", "busy 0", "out 0", "run 10 2", "out 0 2")


class InputTest(ScriptTest):
    TEXT = "program p in a, f; out b; main { word x; take f into x; give x to b; take a into x; give x to b; take a into x; }"

    def test_inputs(self):
        self.shows(self.TEXT, ["input 0 5 6", "input 1 7", "run", "outputs"], "run 11 5", "out 0 7 5")
        self.shows(self.TEXT, ["input 1 65535 0 3", "run", "outputs", "cells"], "run 6 2", "out 0 65535", "cells 65535")

    def test_no_words(self):
        self.shows(self.TEXT, ["input 1 4", "input 1", "run", "outputs"], "run 2 0", "out 0")

    def test_the_last_one_holds(self):
        self.shows(self.TEXT, ["input 1 4 5", "input 1 6", "run", "outputs"], "run 6 2", "out 0 6")

    def test_no_such_channel(self):
        for k in (2, 3, 65535):
            self.shows(self.TEXT, [f"input {k} 1 2", "run", "events"], "run 2 0", "events")
        self.shows(EMPTY, ["input 0 1", "run"], "run 2 0")
        self.shows(EMPTY, ["input 0", "run"], "run 2 0")

    def test_inputs_of_machines(self):
        found = loaded(self.TEXT, "input 1 4", "input 0 5", "machine 4096", "outputs", "cells")
        self.assertEqual(found[1:], ["out 0 4 5", "cells 5"])

    def test_the_result_stays(self):
        self.shows(COPY, ["input 0 1", "run", "input 0 2 3", "outputs", "events", "run", "outputs"],
                   "run 10 2", "out 0 2", "events 0:1 1:2", f"run {steps(prepare(COPY), [[2, 3]], [])} 4", "out 0 3 4")


class MachineTest(ScriptTest):
    def machine(self, text, network, places, homes, inputs, delays, turn, ticks):
        core = prepare(text)
        many = max(network[0], 1)
        usual = [h if kind == "inner" else 0 for kind, h in zip(core[2], spread(len(core[2]), many))]
        places = spread(len(threads_of(core)), many) if places is None else places
        plan = make_plan(core, network, places, usual if homes is None else homes)
        machine = Machine(core, plan, inputs, delays=delays, turn=turn)
        machine.run(ticks)
        return machine

    def line_of(self, machine):
        return f"{'quiet' if machine.quiet() else 'busy'} {machine.now}"

    def check_machine(self, lines, network=(1, []), places=None, homes=None, inputs=(3,), delays=(1,), turn=4):
        """Tests machines of MEET that have made some ticks and all of them."""
        for ticks in (0, 1, 7, 20, 4096):
            machine = self.machine(MEET, network, places, homes, [list(inputs)], list(delays), turn, ticks)
            expected = [
                self.line_of(machine), " ".join(["out 0"] + [str(word) for word in machine.outputs()[0]]),
                "ends " + " ".join(machine.ends()), " ".join(["events"] + [f"{c}:{word}" for c, word in machine.log]),
            ]
            if machine.quiet():
                expected.append(" ".join(["cells"] + [str(word) for word in machine.cells()]))
            shown = ["outputs", "ends", "events", "cells", "chains"]
            self.shows(MEET, ["input 0 3", *lines, f"machine {ticks}", *shown], *expected)

    def test_the_usual_machine(self):
        self.check_machine([])

    def test_the_usual_turn(self):
        text = (
            "program p out b, g; main { together { "
            "{ word x; x = x + 1; x = x + 1; give 1 to b; x = x + 1; x = x + 1; give 2 to b; give 3 to b; } "
            "{ word y; give 4 to g; y = y + 1; y = y + 1; give 5 to g; give 6 to g; } } }"
        )
        plain = loaded(text, "machine 4096", "events")
        self.assertEqual(loaded(text, "turn 4", "machine 4096", "events"), plain)
        for turn in (1, 2, 3, 5, 6, 7, 8, 11):
            self.assertNotEqual(loaded(text, f"turn {turn}", "machine 4096", "events"), plain)

    def test_networks(self):
        self.check_machine(["network 1"])
        self.check_machine(["network 2 0-1"], (2, [(0, 1)]))
        self.check_machine(["network 3 0-1 1-2"], (3, [(0, 1), (1, 2)]))
        self.check_machine(["network 3 1-2 0-1"], (3, [(0, 1), (1, 2)]))
        self.check_machine(["network 6 0-1 1-2 2-3 3-4 4-5 0-5"], (6, [(k, k + 1) for k in range(5)] + [(0, 5)]))
        self.check_machine(["network 2 0-1", "network 3 0-1 0-2"], (3, [(0, 1), (0, 2)]))

    def test_places_and_homes(self):
        row = (3, [(0, 1), (1, 2)])
        self.check_machine(["network 3 0-1 1-2", "places 2 1 0"], row, [2, 1, 0])
        self.check_machine(["places 2 2 2", "network 3 0-1 1-2"], row, [2, 2, 2])
        self.check_machine(["homes 0 0 1 1", "network 3 0-1 1-2"], row, None, [0, 0, 1, 1])
        self.check_machine(["homes 0 0 1 1", "network 3 0-1 1-2", "homes 0 0 2 0", "places 0 0 1"], row, [0, 0, 1], [0, 0, 2, 0])

    def test_what_is_usual_follows_the_network(self):
        # Thread t and inner channel c are at t and c modulo the number of processors that holds now.
        self.check_machine(["network 4 0-1 0-2 0-3", "network 3 0-1 1-2"], (3, [(0, 1), (1, 2)]))
        found = loaded(MEET, "input 0 3", "network 2 0-1", "machine 4096", "network 4 0-1 0-2 0-3", "machine 4096")
        two = self.machine(MEET, (2, [(0, 1)]), [0, 1, 0], [0, 0, 0, 1], [[3]], [1], 4, 4096)
        four = self.machine(MEET, (4, [(0, 1), (0, 2), (0, 3)]), [0, 1, 2], [0, 0, 2, 3], [[3]], [1], 4, 4096)
        self.assertEqual(found, [self.line_of(two), self.line_of(four)])
        self.assertNotEqual(*found)

    def test_places_stay_when_the_network_changes(self):
        lines = ["network 3 0-1 1-2", "places 0 1 2", "homes 0 0 2 2", "machine 0", "network 2 0-1", "machine 0"]
        self.shows(MEET, lines + ["network 3 0-1 0-2", "machine 0"], "busy 0", "error PlanError places", "busy 0")

    def test_delays(self):
        two = (2, [(0, 1)])
        self.check_machine(["network 2 0-1", "delays 3"], two, delays=[3])
        self.check_machine(["network 2 0-1", "delays 3 1 7"], two, delays=[3, 1, 7])
        self.check_machine(["network 2 0-1", "delays 65535", "delays 2 2 1"], two, delays=[2, 2, 1])

    def test_turns(self):
        for turn in (1, 2, 5, 65535):
            self.check_machine([f"turn {turn}"], turn=turn)
        self.check_machine(["turn 9", "turn 3"], turn=3)

    def test_the_most_ticks(self):
        # The machine has made 4096 ticks before the first message has come.
        self.shows(EMPTY, ["network 2 0-1", "places 1", "delays 65535", "machine 4096", "ends"], "busy 4096", "ends idle")
        self.shows(EMPTY, ["machine 4096", "ends"], "quiet 1", "ends done")
        self.shows(EMPTY, ["machine 0", "ends"], "busy 0", "ends idle")
        self.shows(EMPTY, ["machine 1", "machine 2"], "quiet 1", "quiet 1")

    def test_each_machine_is_new(self):
        self.shows(EMPTY, ["machine 0", "machine 0", "machine 1", "machine 0"], "busy 0", "busy 0", "quiet 1", "busy 0")

    def test_each_reason(self):
        for lines, reason in (
            (["network 0"], "processors"), (["network 7"], "processors"), (["network 65535 0-1"], "processors"),
            (["network 7 0-1 1-2 2-3 3-4 4-5 5-6"], "processors"),
            (["network 0", "places 0 0 0", "homes 0 0 0 0"], "processors"),
            (["network 2 1-0"], "links"), (["network 2 0-0"], "links"), (["network 2 0-1 0-1"], "links"),
            (["network 2 0-2"], "links"), (["network 1 0-1"], "links"),
            (["network 2"], "parts"), (["network 4 0-1 2-3"], "parts"), (["network 3 1-2"], "parts"),
            (["places 0 0"], "places"), (["places 0 0 0 0"], "places"), (["places 0 0 1"], "places"),
            (["homes 0 0 0"], "places"), (["homes 0 0 0 0 0"], "places"), (["homes 0 0 0 1"], "places"),
            (["network 2 0-1", "homes 1 0 0 0"], "homes"), (["network 2 0-1", "homes 0 1 0 0"], "homes"),
            (["network 2", "places 0"], "parts"), (["network 2 0-1", "homes 1 1 1 1", "places 0"], "places"),
        ):
            shown = ["outputs", "ends", "cells", "events", "chains"]
            self.shows(MEET, [*lines, "machine 9", *shown], f"error PlanError {reason}")
            # There is no result then, whatever it was before.
            self.shows(MEET, ["run", *lines, "machine 9", *shown], "run 6 0", f"error PlanError {reason}")
            found = loaded(MEET, "machine 9", *lines, "machine 9", *shown)
            self.assertEqual(found[1:], [f"error PlanError {reason}"])

    def test_a_network_is_looked_at_only_for_a_machine(self):
        self.shows(MEET, ["network 0", "places 9 9", "homes 7", "run", "ends"], "run 6 0", "ends waiting waiting waiting")
        self.shows(EMPTY, ["network 0", "network 1", "places 9", "places 0", "machine 1"], "quiet 1")

    def test_a_machine_behind_a_refused_one(self):
        self.shows(EMPTY, ["network 9", "machine 1", "network 1", "machine 1", "ends"], "error PlanError processors", "quiet 1", "ends done")

    def test_the_result_stays(self):
        changes = ["input 0 9", "network 0", "places 4", "homes 5", "delays 9", "turn 1"]
        shown = ["outputs", "ends", "cells", "events"]
        first = loaded(MEET, "input 0 3", "machine 4096", *shown)
        self.assertEqual(first[1:], ["out 0 6", "ends done done done", "cells 6 3", "events 0:3 2:3 3:6 1:6"])
        self.assertEqual(loaded(MEET, "input 0 3", "machine 4096", *changes, *shown), first)
        for change in changes:
            self.assertEqual(loaded(MEET, "input 0 3", "machine 4096", change, *shown), first)
            found = loaded(MEET, "input 0 3", "run", change, *shown, "chains")
            self.assertEqual(found, loaded(MEET, "input 0 3", "run", *shown, "chains"))


class ShowTest(ScriptTest):
    def test_outputs(self):
        text = "program p out b, g, h; main { give 4 to g; give 0 to h; give 65535 to g; }"
        for command in ("run", "machine 4096"):
            self.assertEqual(loaded(text, command, "outputs")[1:], ["out 0", "out 1 4 65535", "out 2 0"])
        self.shows(EMPTY, ["run", "outputs"], "run 2 0")

    def test_ends(self):
        text = (
            "program p main { channel c; word x; together { stop; { x = 1 / x; } skip; give 1 to c; } together { skip; } }"
        )
        for command in ("run", "machine 4096"):
            self.assertEqual(loaded(text, command, "ends")[1:], ["ends waiting stopped faulted done waiting idle"])
        self.assertEqual(loaded("program p main { repeat 9 while 1 { skip; } }", "machine 9", "ends")[1:], ["ends running"])

    def test_cells(self):
        text = "program p main { word x; array a[2]; a[1] = 65535; x = 3; }"
        for command in ("run", "machine 4096"):
            self.assertEqual(loaded(text, command, "cells")[1:], ["cells 3 0 65535"])
            self.assertEqual(loaded(EMPTY, command, "cells")[1:], ["cells"])

    def test_the_cells_of_a_busy_machine(self):
        text = "program p main { word x; x = 3; }"
        self.shows(text, ["machine 2", "cells", "machine 3", "cells"], "busy 2", "quiet 3", "cells 3")
        self.shows(text, ["machine 0", "cells", "ends"], "busy 0", "ends idle")

    def test_events(self):
        for command in ("run", "machine 4096"):
            self.assertEqual(loaded(COPY, "input 0 65535 0", command, "events")[1:], ["events 0:65535 1:0 0:0 1:1"])
            self.assertEqual(loaded(COPY, command, "events")[1:], ["events"])

    def test_commands_may_be_repeated(self):
        self.shows(COPY, ["input 0 1", "run", "outputs", "outputs", "cells", "ends", "cells"],
                   "run 10 2", "out 0 2", "out 0 2", "cells 1", "ends waiting", "cells 1")


class ChainsTest(ScriptTest):
    def test_a_ring(self):
        self.shows(RING, ["run", "chains"], "run 6 0", "0 1 2 ring 1", "1 2 ring 0", "2 1 ring 0")

    def test_each_end(self):
        text = (
            "program p in a; out b; main { channel c[4]; word x; word y; word z; word u; together { "
            "take a into x; take c[0] into y; { take c[1] into z; } { skip; give 1 to c[2]; } "
            "{ if u { take c[2] into u; give 1 to c[1]; } stop; } } }"
        )
        found = loaded(text, "run", "chains")
        self.assertEqual(found[1:], [
            "0 1 dead 0 - input", "1 dead 0 - input", "2 dead 2 - nobody", "3 dead 3 5 stopped", "4 dead 4 5 stopped",
        ])

    def test_joining(self):
        self.shows("program p main { together { skip; stop; } }", ["run", "chains"], "run 4 0", "0 dead - 2 stopped")
        self.shows("program p main { word x; together { x = 1 / x; } }", ["run", "chains"], "run 3 0", "0 dead - 1 faulted")
        text = "program p main { channel c; word x; together { take c into x; { give 1 to c; give 2 to c; } } }"
        self.assertEqual(loaded(text, "run", "chains")[1:], ["0 2 dead 0 1 done", "2 dead 0 1 done"])

    def test_no_thread_waits(self):
        self.shows(EMPTY, ["run", "chains"], "run 2 0")

    def test_a_machine_has_no_chains(self):
        self.assertEqual(len(loaded(RING, "machine 4096", "chains")), 1)
        self.assertEqual(len(loaded(RING, "machine 3", "chains")), 1)
        self.assertEqual(len(loaded(RING, "machine 3", "chains", "run", "chains")), 5)
        self.assertEqual(len(loaded(RING, "run", "chains", "machine 3", "chains")), 5)

    def test_drawn_programs(self):
        rng = random.Random(152)
        rows = 0
        for _ in range(60):
            text = draw_text(rng)
            try:
                core = prepare(text)
            except PlacedError:
                continue
            choices = [rng.randrange(6) for _ in range(5)]
            state, events = run(core, [[] for _ in range(core[2].count("in"))], choices)
            expected = [f"run {steps(core, [[]] * core[2].count('in'), choices)} {len(events)}"]
            for t, _ in waits(core, state):
                found, end = chain(core, state, t)
                expected.append(" ".join([str(part) for part in found] + ["-" if part is None else str(part) for part in end]))
            rows += len(expected) - 1
            self.assertEqual(loaded(text, "run " + " ".join(map(str, choices)), "chains"), expected)
        self.assertGreater(rows, 10)


class DrawnTest(ScriptTest):
    def test_drawn_machines(self):
        rng = random.Random(153)
        quiet = 0
        for _ in range(60):
            text = draw_text(rng)
            try:
                core = prepare(text)
            except PlacedError:
                continue
            network, delays, turn = draw_network(rng), draw_delays(rng) or [1], rng.randrange(1, 9)
            places = [rng.randrange(network[0]) for _ in threads_of(core)]
            homes = [rng.randrange(network[0]) if kind == "inner" else 0 for kind in core[2]]
            inputs = [[rng.randrange(9) for _ in range(rng.randrange(5))] for _ in range(core[2].count("in"))]
            ticks = rng.choice((0, 50, 4096, 4096))
            machine = Machine(core, make_plan(core, network, places, homes), inputs, delays=delays, turn=turn)
            quiet += machine.run(ticks)
            lines = [" ".join(["input", str(k), *map(str, words)]) for k, words in enumerate(inputs)]
            lines.append(" ".join(["network", str(network[0])] + [f"{a}-{b}" for a, b in network[1]]))
            lines.append("places " + " ".join(map(str, places)))
            lines += ["homes " + " ".join(map(str, homes))] if homes else []
            lines += ["delays " + " ".join(map(str, delays)), f"turn {turn}"]
            rng.shuffle(lines)
            found = loaded(text, *lines, f"machine {ticks}", "ends", "events", "cells", "outputs")
            expected = [f"{'quiet' if machine.quiet() else 'busy'} {machine.now}", "ends " + " ".join(machine.ends())]
            expected.append(" ".join(["events"] + [f"{c}:{word}" for c, word in machine.log]))
            if machine.quiet():
                expected.append(" ".join(["cells", *map(str, machine.cells())]))
            expected += [" ".join(["out", str(k), *map(str, words)]) for k, words in enumerate(machine.outputs())]
            self.assertEqual(found, expected)
        self.assertGreater(quiet, 5)

    def test_runs_and_machines_have_the_same_result(self):
        found = loaded(MEET, "input 0 3", "run 1 0 2", "outputs", "ends", "cells")[1:]
        for network in ("1", "2 0-1", "4 0-1 1-2 2-3"):
            self.assertEqual(loaded(MEET, "input 0 3", f"network {network}", "machine 4096", "outputs", "ends", "cells")[1:], found)


if __name__ == "__main__":
    unittest.main()
