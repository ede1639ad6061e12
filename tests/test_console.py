"""The console: its commands and their answers."""

import unittest
from fractions import Fraction

from rigs import begun_by_hand, readings_by_hand, step_of_loop
from safehelms.console import said
from safehelms.errors import InvalidRows
from safehelms.histories import history_of, history_text
from safehelms.shown import refused, shown, shown_names, shown_paper
from sums import ODD, HelmCase, num, pair

NAMES = ("brake", "lift", "tank")
NONE = "no such command\n"


def middles(pairs):
    return tuple(pair((num(low) + num(high)) / 2) for low, high in pairs)


def run_by_hand(name, many):
    """The history of the first steps, and what stands at the end of each."""
    loop = shown(name)
    state = middles(loop[0][2])
    standing, rows, ends = begun_by_hand(loop, state), [], []
    for _ in range(many):
        readings = tuple(seen[0] for seen in readings_by_hand(loop[0], standing[2]))
        rows.append((0, middles(loop[0][1]), readings, 0, 0))
        standing = step_of_loop(loop, standing, rows[-1])
        ends.append(standing[2])
    return loop, state, tuple(rows), ends


def with_ends(loop, state, rows, ends):
    """The text of the history, with a row `at` behind each step."""
    lines = history_text(loop, state, rows).split("\n")[:-1]
    told = [lines[0]]
    for line, end in zip(lines[1:], ends, strict=True):
        told += [line, "at " + " ".join(str(Fraction(*number)) for number in end)]
    return "".join(line + "\n" for line in told)


class Commands(HelmCase):
    def assert_said(self, command, answer):
        self.assertEqual(said((command,)), (answer,))

    def test_run(self):
        for name in NAMES:
            for many in (0, 1, 2, 9, 10, 30, 59, 60):
                self.assert_said(f"run {name} {many}", with_ends(*run_by_hand(name, many)))

    def test_run_as_it_is_read(self):
        # 7 / 8 times 30, thrice 5, and 1: the least reading of 30 is 29, so the tank is filled.
        self.assert_said("run tank 2", "begin 30\nstep 0 0 0 1 29\nat 169/4\nstep 0 0 0 1 42\nat 1695/32\n")
        for name in NAMES:
            self.assertEqual(said((f"run {name} 0",))[0].count("\n"), 1)
            rows = said((f"run {name} 60",))[0].split("\n")
            self.assertEqual([row.split(" ")[0] for row in rows], ["begin"] + ["step", "at"] * 60 + [""])
            history = "".join(row + "\n" for row in rows if row and not row.startswith("at "))
            self.assertEqual(len(history_of(shown(name), history)[1]), 60)

    def test_judge(self):
        for name in NAMES:
            self.assert_said(f"judge {name}", f"safe {len(shown_paper(name)[1])}\n")

    def test_break(self):
        for name in NAMES:
            loop, state, rows = refused(name)
            standing, ends = begun_by_hand(loop, state), []
            for comes in rows:
                standing = step_of_loop(loop, standing, comes)
                ends.append(standing[2])
            self.assert_said(f"break {name}", with_ends(loop, state, rows, ends) + "not safe\n")

    def test_numbers_that_are_no_steps(self):
        for many in ("61", "62", "100", "-1", "-0", "00", "01", "007", "+1", "1.0", "1/1", "", "x", "1_0", "\u0661", "6O",
                     "9" * 3000, "-5", "1e1", "0x1", "--1", "-"):
            for name in NAMES:
                self.assert_said(f"run {name} {many}", NONE)

    def test_words_and_blanks(self):
        for command in ("", " ", "run", "judge", "break", "run tank", "run 5 tank", "run  tank 5", " run tank 5", "run tank 5 ",
                        "run tank  5", "run tank 5 5", "run tank 5\n", "run\ttank 5", "Run tank 5", "run Tank 5",
                        "run tanks 5", "run tank,5", "judge tank 5", "judge  tank", "judge tank ", " judge tank", "judge",
                        "judge all", "judge tank\n", "JUDGE tank", "break tank 5", "break  tank", " break tank", "break tank ",
                        "breaks tank", "break nobody", "help", "no such command", "run tank -1", "tank", "run run 5",
                        "judge judge", "\n", "run brake lift 3", "safe", "run tank 5;run tank 5"):
            self.assert_said(command, NONE)


class ManyCommands(HelmCase):
    def test_in_order(self):
        self.assertEqual(said(()), ())
        commands = tuple(f"{word} {name}" for word in ("judge", "break") for name in shown_names()) + ("x", "run lift 4")
        self.assertEqual(said(commands), tuple(said((command,))[0] for command in commands))
        self.assertEqual(said(commands=("x", "y")), (NONE, NONE))
        self.assertIs(type(said(())), tuple)

    def test_alike_ones(self):
        commands = ("judge tank", "x", "run tank 1", "judge tank", "run tank 2", "x", "run tank 1")
        self.assertEqual(said(commands), tuple(said((command,))[0] for command in commands))

    def test_sixty(self):
        for many in (59, 60):
            self.assertEqual(said(("x",) * many), (NONE,) * many)
        for many in (61, 62, 300):
            self.fails_at(InvalidRows, 60, said, ("x",) * many)
            self.fails_at(InvalidRows, 59, said, ("x",) * 59 + (5,) + ("x",) * many)
            self.fails_at(InvalidRows, 60, said, ("x",) * 60 + (5,) * many)

    def test_what_is_no_tuple_of_texts(self):
        for value in ODD + ["run tank 5", ["run tank 5"]]:
            if type(value) is not tuple:
                self.fails_at(InvalidRows, None, said, value)
            if type(value) is not str:
                self.fails_at(InvalidRows, 0, said, (value,))
                self.fails_at(InvalidRows, 2, said, ("judge nobody", "", value, value))
        self.fails_at(InvalidRows, None, said, commands=None)


if __name__ == "__main__":
    unittest.main()
