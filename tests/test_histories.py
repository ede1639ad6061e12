"""Point 23: texts of histories there and back, and the first row that no history has behind those ahead of it."""

import random
import unittest

from rigs import (CART_LOOP, CART_PLANT, TANK_LOOP, TANK_PLANT, made_loops, some_rows, some_start, span, with_part)
from safehelms.errors import InvalidLoop, InvalidRow, InvalidRows, InvalidText
from safehelms.histories import history_of, history_text
from sums import NO_FRACTIONS, ODD, HelmCase, pair, row

BIG = 10 ** 300
STAY = (0, row(0), (5,), 0, 0)
CART_ROWS = ((1, row("-1/4", "1/3"), (-2, 0), 1, 0), (0, row(0, 0), (), 0, 1))
CART_TEXT = "begin -2 1/2\nstep 1 1 0 -1/4 1/3 -2 0\nstep 0 0 1 0 0\n"


def wrong_row(loop, text):
    """The index that InvalidText tells; None."""
    try:
        history_of(loop, text)
    except InvalidText as error:
        return error.index
    return None


class ThereAndBack(HelmCase):
    def assert_text(self, loop, state, rows, text):
        self.assertEqual(history_text(loop, state, rows), text)
        self.assertEqual(history_of(loop, text), (state, rows))

    def test_as_told(self):
        self.assert_text(TANK_LOOP, row("9/2"), (), "begin 9/2\n")
        self.assert_text(TANK_LOOP, row(5), (STAY, (0, row("1/4"), (5,), 0, 0)),
                         "begin 5\nstep 0 0 0 0 5\nstep 0 0 0 1/4 5\n")
        self.assert_text(CART_LOOP, row(-2, "1/2"), CART_ROWS, CART_TEXT)
        self.assertEqual(history_text(rows=(), state=row(5), loop=TANK_LOOP), "begin 5\n")
        self.assertEqual(history_of(text="begin 5\n", loop=TANK_LOOP), (row(5), ()))

    def test_great_numbers(self):
        wide = (with_part(TANK_PLANT, (2, 0), span(-BIG, 1)), TANK_LOOP[1])
        self.assert_text(wide, (pair(1 - BIG),), (), f"begin {1 - BIG}\n")
        self.assert_text(wide, ((1, BIG),), (), f"begin 1/{BIG}\n")

    def test_many(self):
        source = random.Random(2305)
        for loop in made_loops(source, 150):
            state = some_start(source, loop)
            texts = {}
            for _ in range(3):
                rows = some_rows(source, loop, state, source.choice((0, 1, 3, 20)))
                text = history_text(loop, state, rows)
                self.assertEqual(history_of(loop, text), (state, rows))
                self.assertEqual(texts.setdefault(text, rows), rows)

    def test_sixty_steps(self):
        for many in (59, 60):
            self.assert_text(TANK_LOOP, row(5), (STAY,) * many, "begin 5\n" + "step 0 0 0 0 5\n" * many)
        for many in (61, 62, 300):
            self.fails_at(InvalidText, 61, history_of, TANK_LOOP, "begin 5\n" + "step 0 0 0 0 5\n" * many)
            self.fails_at(InvalidRows, 60, history_text, TANK_LOOP, row(5), (STAY,) * min(many, 250))
        self.fails_at(InvalidText, 61, history_of, TANK_LOOP, "begin 5\n" + "step 0 0 0 0 5\n" * 60 + "step")


class RowsThatAreNone(HelmCase):
    def assert_none(self, index, text, loop=CART_LOOP):
        self.fails_at(InvalidText, index, history_of, loop, text)

    def test_few_rows(self):
        for text in ("", "\n", "begin -2 1/2", "begin\n", "start -2 1/2\n", "begin -2\n", "begin -2 1/2 0\n", "x",
                     "begin -3 1/2\n", "begin -2 1/3\n", "begin -2  1/2\n", " begin -2 1/2\n", "begin -2 1/2 \n",
                     "begin -2 2/4\n", "begin -4/2 1/2\n", "begin -2 1/2\r\n", "step 0 0 0 0 0 -2 0\n", "begin -02 1/2\n"):
            self.assert_none(0, text)
        for text in ("begin -2 1/2\n\n", "begin -2 1/2\nstep 0 0 1 0 0", "begin -2 1/2\nx", "begin -2 1/2\n ",
                     "begin -2 1/2\nbegin -2 1/2\n"):
            self.assert_none(1, text)
        self.assertEqual(history_of(CART_LOOP, "begin -2 1/2\n"), (row(-2, "1/2"), ()))

    def test_something_behind_the_last_line_end(self):
        for behind in ("step 0 0 1 0 0", " ", "x", "\n", "end\n", "begin -2 1/2\n"):
            self.assert_none(3, CART_TEXT + behind)
        self.assert_none(2, CART_TEXT[:-1])

    def test_words_of_a_step(self):
        words = "step 1 1 0 -1/4 1/3 -2 0".split(" ")
        others = ["", "x", "step", "2", "-1", "-0", "00", "01", "+1", "1/1", "2/4", "1.0", "7", "1/2", "-9", "/", "\u0661"]
        for at in range(len(words)):
            for other in others:
                fitting = (other == "step" and at == 0) or (at == 7 and other == "-1")
                text = CART_TEXT.replace(" ".join(words), " ".join(words[:at] + [other] + words[at + 1:]))
                if fitting:
                    self.assertEqual(history_text(CART_LOOP, *history_of(CART_LOOP, text)), text)
                else:
                    self.assert_none(1, text)
            for changed in (words[:at] + words[at + 1:], words[:at + 1] + words[at:], words[:at] + [""] + words[at:]):
                self.assert_none(1, CART_TEXT.replace(" ".join(words), " ".join(changed)))
        for more in (" 0", " ", " -2 0"):
            self.assert_none(1, CART_TEXT.replace("-2 0\n", "-2 0" + more + "\n"))

    def test_rows_that_do_not_fit(self):
        for text in ("step 2 0 0 0 0 -2 0", "step 0 0 0 1/9 0 -2 0", "step 0 2 0 0 0 -2 0", "step 0 0 2 0 0 -2 0",
                     "step 0 0 0 0 0 -1 0", "step 0 0 0 0 0 -2 5", "step 0 0 0 0 0", "step 0 0 1 0 0 -2 0",
                     "step 0 1 1 0 0", "step 0 0 1 0", "step 0 0 1"):
            self.assert_none(1, "begin -2 1/2\n" + text + "\n")
            self.assert_none(2, "begin -2 1/2\nstep 0 0 1 0 0\n" + text + "\nstep 0 0 1 0 0\n")
        # Held where it is off, and once more than HOLDS.
        self.assert_none(2, "begin -2 1/2\nstep 0 0 1 0 0\nstep 0 1 0 0 0 -2 -1\n")
        self.assertEqual(len(history_of(CART_LOOP, "begin -2 1/2\nstep 0 0 1 0 0\nstep 0 0 0 0 0 -2 -1\n")[1]), 2)
        never = (with_part(CART_PLANT, (5,), (-3, 5, -1, 0, 0)), CART_LOOP[1])
        self.assert_none(1, CART_TEXT, never)
        self.assert_none(1, "begin -2 1/2\nstep 0 0 1 0 0\n", never)

    def test_nothing_behind_a_spoilt_standing(self):
        loop = (TANK_PLANT, (8, (("level", 6, 100),), (), (0, 5), (("only", (("out", 0),)),)))
        self.assertEqual(history_of(loop, "begin 5\nstep 0 0 0 0 5\n"), (row(5), (STAY,)))
        self.assert_none(2, "begin 5\nstep 0 0 0 0 5\nstep 0 0 0 0 5\n", loop)

    def test_changed_by_chance(self):
        source, told = random.Random(2306), {}
        for loop in made_loops(source, 300):
            state = some_start(source, loop)
            signs = list(history_text(loop, state, some_rows(source, loop, state, 4)))
            at = source.randrange(len(signs))
            signs[at:at + source.choice((0, 1, 1))] = source.choice(("", " ", "\n", "0", "1", "-", "/", "9"))
            text = "".join(signs)
            index = wrong_row(loop, text)
            told[index is None] = told.get(index is None, 0) + 1
            if index is None:
                self.assertEqual(history_text(loop, *history_of(loop, text)), text)
                continue
            # All rows ahead of this one are those of a history; with it they are not, whatever stands behind.
            rows = text.split("\n")
            if index > 0:
                ahead = "".join(one + "\n" for one in rows[:index])
                self.assertEqual(history_text(loop, *history_of(loop, ahead)), ahead)
            if index < len(rows) - 1:
                self.assert_none(index, "".join(one + "\n" for one in rows[:index + 1]), loop)
        self.assertTrue(told[True] > 10 and told[False] > 50)


class Errors(HelmCase):
    def test_errors(self):
        for value in ODD:
            self.fails_given(InvalidLoop, value, history_of, value, value)
            self.fails_given(InvalidLoop, value, history_text, value, value, value)
            if type(value) is not str:
                self.fails_at(InvalidText, None, history_of, TANK_LOOP, value)
            if type(value) is not tuple:
                self.fails_at(InvalidRow, None, history_text, TANK_LOOP, value, value)
                self.fails_at(InvalidRows, None, history_text, TANK_LOOP, row(5), value)
            self.fails_at(InvalidRows, 1, history_text, TANK_LOOP, row(5), (STAY, value))
        for value in NO_FRACTIONS:
            self.fails_at(InvalidRow, 0, history_text, TANK_LOOP, (value,), value)
        self.fails_at(InvalidRow, None, history_text, TANK_LOOP, row(7), None)


if __name__ == "__main__":
    unittest.main()
