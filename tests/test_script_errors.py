"""Point 26.4: lines of scripts that are not commands."""

import itertools
import unittest

from placedanyhow.errors import CommandError, PlacedError
from placedanyhow.script import run_script

EMPTY = "program p main { skip; }"
PROGRAM = ["load", EMPTY, "."]

# Forms that are not numbers.
NO_NUMBERS = (
    "+1", "-1", "00", "01", "007", "65536", "65537", "99999", "100000", "1" * 30, "x", "1x", "x1", "1.", ".", "0x1", "1e1",
    "1_0", "1,", "#", "#1", "$", "one", "O",
)
# Forms that are not links.
NO_LINKS = NO_NUMBERS + (
    "0", "1", "0-", "-", "--", "0--1", "0-1-", "-0-1", "0-1-2", "0-x", "x-0", "0-01", "00-1", "0-65536", "65536-0", "+0-1", "0-+1",
    "0_1", "0,1", "0-1,", "(0-1)", "0/1", "0-1x",
)

GOOD = (
    "input 0", "input 0 1", "input 65535 65535 0", "network 0", "network 65535", "network 2 0-1", "network 1 65535-65535 0-0",
    "network 3 2-1 2-1", "places 0", "places 65535 3", "homes 0", "homes 1 65535", "delays 1", "delays 65535 1", "turn 1",
    "turn 65535", "run", "run 0", "run 65535 1 1", "machine 0", "machine 4096", "outputs", "ends", "cells", "events", "chains",
)
WORDS = (
    "input", "network", "places", "homes", "delays", "turn", "run", "machine", "outputs", "ends", "cells", "events", "chains", "load",
)


def refused(script):
    """The line of the CommandError, or None."""
    try:
        run_script(script)
    except CommandError as e:
        return e.line


class ErrorTest(unittest.TestCase):
    def breaks(self, command):
        """Tests a wrong line alone, ahead of a program, behind one, and behind other lines."""
        self.assertEqual(refused(command), 1, command)
        self.assertEqual(refused("\n".join([command] + PROGRAM)), 1, command)
        self.assertEqual(refused("\n".join(PROGRAM + ["run", command])), 5, command)
        self.assertEqual(refused("\n".join(["", "# x", *PROGRAM, "  ", command, "", "run"])), 7, command)
        self.assertEqual(refused("   " + command + "  "), 1, command)

    def test_it_is_an_error_of_the_program(self):
        self.assertTrue(issubclass(CommandError, PlacedError))
        self.assertRaises(CommandError, run_script, "turn 0")
        self.assertIs(type(refused("x")), int)

    def test_good_lines(self):
        for command in GOOD:
            self.assertIsNone(refused(command), command)
            self.assertIsNone(refused("\n".join(PROGRAM + [command])), command)
            self.assertIsNone(refused("\n".join(PROGRAM + ["run", "   " + command.replace(" ", "   ") + "  "])), command)

    def test_unknown_words(self):
        for word in (
            "x", "stop", "quit", "runs", "ru", "run1", "run,", "run;", "loads", "out", "in", "program", ".", "..", "-", "0", "1 2", "0-1",
            "!", "x # y", "inputs 0 1", "output", "end", "cell", "event", "chain", "place 0", "home 0", "delay 1", "turns 1",
            "machines 1", "loadx", "load.", "run#", "networks 1",
        ):
            self.breaks(word)

    def test_capital_letters(self):
        for command in GOOD:
            self.breaks(command.upper())
            self.breaks(command.capitalize())
        self.breaks("LOAD")
        self.breaks("Load")

    def test_missing_arguments(self):
        for command in ("input", "network", "places", "homes", "delays", "turn", "machine"):
            self.breaks(command)

    def test_superfluous_arguments(self):
        for command in ("outputs", "ends", "cells", "events", "chains"):
            for argument in ("0", "1", "x", "#", ".", "0-1"):
                self.breaks(f"{command} {argument}")
        for command in ("turn 1 1", "turn 4 x", "machine 5 5", "machine 5 0", "machine 5 #", "turn 1 # x", "run # x", "ends # x"):
            self.breaks(command)

    def test_load_with_arguments(self):
        for argument in ("x", "0", ".", "#", "load"):
            command = f"load {argument}"
            self.breaks(command)
            self.assertEqual(refused("\n".join([command, EMPTY, "."])), 1)
            self.assertEqual(refused("\n".join(PROGRAM + [command, EMPTY, "."])), 4)

    def test_arguments_that_are_no_numbers(self):
        for number in NO_NUMBERS:
            for command in (
                "input {}", "input {} 1", "input 0 {}", "input 0 1 {}", "network {}", "network {} 0-1", "places {}", "places 0 {}",
                "homes {}", "homes 0 {}", "delays {}", "delays 1 {}", "turn {}", "run {}", "run 0 {}", "run {} 0", "machine {}",
            ):
                self.breaks(command.replace("{}", number))

    def test_arguments_that_are_no_links(self):
        for link in NO_LINKS:
            self.breaks(f"network 2 {link}")
            self.breaks(f"network 2 0-1 {link}")
            self.breaks(f"network 2 {link} 0-1")
        for command in ("network 0-1", "network 2 0 - 1", "network 2 0- 1", "network 2 0 -1", "network 0-1 2"):
            self.breaks(command)

    def test_links_for_other_commands(self):
        for command in ("input 0-1", "input 0 0-1", "places 0-1", "homes 0-1", "delays 1-2", "turn 1-2", "run 0-1", "machine 1-2"):
            self.breaks(command)

    def test_delays_and_turns_that_are_0(self):
        for command in ("delays 0", "delays 1 0", "delays 0 1", "delays 1 0 1", "turn 0"):
            self.breaks(command)

    def test_too_many_ticks(self):
        for ticks in (4097, 4098, 5000, 10000, 65535):
            self.breaks(f"machine {ticks}")
        self.assertIsNone(refused("machine 4096"))
        self.assertIsNone(refused("run 4097"))

    def test_a_load_without_an_end(self):
        for behind in ([], [""], [EMPTY], [EMPTY, " ."], [EMPTY, ". "], [EMPTY, "..", "# .", "run"], ["x", "run", "turn 0"]):
            self.assertEqual(refused("\n".join(["load"] + behind)), 1)
            self.assertEqual(refused("\n".join(["run", "  load  "] + behind)), 2)
            self.assertEqual(refused("\n".join(PROGRAM + ["", "load"] + behind)), 5)
        # The lines of a text are not read as commands.
        self.assertIsNone(refused("\n".join(["load", "load", "turn 0", "x", "."])))
        self.assertEqual(refused("\n".join(["load", "load", ".", "."])), 4)

    def test_a_line_of_a_dot(self):
        self.breaks(".")
        self.assertEqual(refused("\n".join(PROGRAM + ["."])), 4)
        self.assertEqual(refused("\n".join(PROGRAM + ["run", "  .  "])), 5)

    def test_lines_are_counted_over_texts(self):
        self.assertEqual(refused("\n".join(["load", "program p", "", "main {", "}", ".", "x"])), 7)
        self.assertEqual(refused("\n".join(["load", "", "", ".", "load", "run", ".", "", "x"])), 9)

    def test_the_first_wrong_line_decides(self):
        wrong = ("x", "turn 0", "machine 4097", "network 2 0-", "delays", "ends 1")
        for one, other in itertools.permutations(wrong, 2):
            self.assertEqual(refused("\n".join([one, other])), 1)
            self.assertEqual(refused("\n".join(PROGRAM + [one, "run", other])), 4)
            self.assertEqual(refused("\n".join(["run", one] + PROGRAM + [other])), 2)
        self.assertEqual(refused("\n".join(["x", "load", EMPTY])), 1)
        self.assertEqual(refused("\n".join(["load", EMPTY, "x"])), 1)

    def test_wrong_lines_where_the_command_has_no_effect(self):
        # Without a program, behind a load that is refused, and for a channel or a result that is not there.
        for command in ("turn 0", "input x", "input 0 65536", "machine 4097", "outputs 1", "chains 0", "network x", "delays 0"):
            self.assertEqual(refused(command), 1)
            self.assertEqual(refused("\n".join(["load", "x", ".", command])), 4)
            self.assertEqual(refused("\n".join(PROGRAM + ["network 0", "machine 0", command])), 6)
        self.assertEqual(refused("\n".join(PROGRAM + ["input 9 x"])), 4)

    def test_no_output_is_returned(self):
        with self.assertRaises(CommandError) as caught:
            run_script("\n".join(PROGRAM + ["run", "ends", "x"]))
        self.assertEqual(caught.exception.line, 6)

    def test_all_words(self):
        for word in WORDS:
            self.assertNotEqual(refused(f"{word} x"), None)
            self.assertEqual(refused(f"{word}x"), 1)
            self.assertEqual(refused(f"x{word}"), 1)


if __name__ == "__main__":
    unittest.main()
