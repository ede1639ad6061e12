"""Point 15, the machine: words, programs row by row, and how they are done."""

import random
import unittest

from helms import highest, lowest
from safehelms.errors import InvalidCells, InvalidNumber, InvalidProgram
from safehelms.machine import is_program, run_program, wrapped
from sums import NO_FRACTIONS, ODD, HelmCase

BIG = 10 ** 300
STOP = ("stop",)
ADDING = (("put", 1, 100), ("below", 0, 1, 3), ("add", 2, 0, 1), STOP)
# A row of each kind as it may stand at index 0 of a program of two.
ROWS = [("put", 0, 5), ("copy", 1, 0), ("add", 2, 1, 0), ("less", 0, 0, 0), ("times", 1, 2, -7), ("jump", 1),
        ("below", 0, 2, 1), STOP]
# Which of their parts, by index, are cells, words or rows.
CELLS = {"put": (1,), "copy": (1, 2), "add": (1, 2, 3), "less": (1, 2, 3), "times": (1, 2), "below": (1, 2)}
WORDS = {"put": 2, "times": 3}
LEADS = {"jump": 1, "below": 3}


def bent(value, at, part):
    return value[:at] + (part,) + value[at + 1:]


class Wrapped(HelmCase):
    def test_one_word_alike(self):
        for width in (4, 5, 8, 16, 31, 32):
            low, high = lowest(width), highest(width)
            self.assertEqual([wrapped(width, number) for number in (low, high, 0, -1)], [low, high, 0, -1])
            self.assertEqual([wrapped(width, high + 1), wrapped(width, low - 1)], [low, high])
            source = random.Random(width)
            for _ in range(60):
                number = source.choice((source.randint(4 * low, 4 * high), source.randint(-BIG, BIG)))
                told = wrapped(number=number, width=width)
                self.assertTrue(low <= told <= high)
                self.assertEqual((told - number) % 2 ** width, 0)

    def test_all_of_width_4(self):
        self.assertEqual([wrapped(4, number) for number in range(-24, 25)],
                         [*range(-8, 8)] * 3 + [-8])

    def test_far_numbers(self):
        self.assertEqual([wrapped(32, 2 ** 900), wrapped(32, 2 ** 900 - 1), wrapped(8, BIG * 256 - 3)], [0, -1, -3])

    def test_wrong_inputs(self):
        for value in NO_FRACTIONS + [3, 33, 64, -8]:
            self.fails_given(InvalidNumber, value, wrapped, value, None)
            if type(value) is not int:
                self.fails_given(InvalidNumber, value, wrapped, 8, value)
                self.fails_given(InvalidNumber, value, wrapped, number=value, width=32)


class IsProgram(HelmCase):
    def test_right_ones(self):
        self.assertIs(is_program(ADDING), True)
        self.assertIs(is_program(value=(STOP,)), True)
        for one in ROWS:
            self.assertIs(is_program((one, STOP)), True)

    def test_how_many_rows(self):
        self.assertIs(is_program(()), False)
        for many, right in ((1, True), (2, True), (1999, True), (2000, True), (2001, False), (2500, False)):
            self.assertIs(is_program((STOP,) * many), right)
            self.assertIs(is_program((("put", 0, 1),) * (many - 1) + (STOP,)), right)

    def test_the_last_row_is_a_stop(self):
        for one in ROWS[:-1]:
            self.assertIs(is_program((one,)), False)
            self.assertIs(is_program((STOP, one)), False)

    def test_stops_and_rows_to_which_nothing_leads(self):
        self.assertIs(is_program((STOP, STOP, ("put", 0, 1), STOP)), True)
        self.assertIs(is_program((("jump", 2), ("put", 0, 1), STOP)), True)

    def test_cells(self):
        for one in ROWS:
            for at in CELLS.get(one[0], ()):
                for cell in [-1, 0, 1, 126, 127, 128, 129, BIG, True, None, "0", (0,)]:
                    right = type(cell) is int and 0 <= cell <= 127
                    self.assertIs(is_program((bent(one, at, cell), STOP)), right)

    def test_words_of_32(self):
        for one in ROWS:
            if one[0] in WORDS:
                for word in [0, -1, 2 ** 31 - 1, 2 ** 31, -2 ** 31, -2 ** 31 - 1, BIG, True, None, "0", (0,)]:
                    right = type(word) is int and -2 ** 31 <= word < 2 ** 31
                    self.assertIs(is_program((bent(one, WORDS[one[0]], word), STOP)), right)

    def test_rows_behind(self):
        for one in ROWS:
            if one[0] in LEADS:
                for to in [*range(-2, 8), True, None, "5", (5,), BIG]:
                    program = (STOP, STOP, bent(one, LEADS[one[0]], to), STOP, STOP, STOP)
                    self.assertIs(is_program(program), type(to) is int and 3 <= to <= 5, to)

    def test_forms_of_rows(self):
        for one in ROWS:
            self.assertIs(is_program((list(one), STOP)), False)
            self.assertIs(is_program((one + (0,), STOP)), False)
            if one != STOP:
                self.assertIs(is_program((one[:-1], STOP)), False)
            for word in ("Put", "move", "", "set", "sub", b"put", 0, None, ("put",)):
                self.assertIs(is_program((bent(one, 0, word), STOP)), False)
        self.assertIs(is_program(list(ADDING)), False)
        self.assertIs(is_program((["stop"],)), False)

    def test_whatever_it_is(self):
        for value in ODD + NO_FRACTIONS:
            self.assertIs(is_program(value), False)
            self.assertIs(is_program((value, STOP)), False)
            self.assertIs(is_program((STOP, value)), False)
            for one in ROWS:
                for at in range(1, len(one)):
                    kinds = (at in CELLS.get(one[0], ()) and value in (0, 1), WORDS.get(one[0]) == at and value > -9,
                             LEADS.get(one[0]) == at and value == 1) if type(value) is int else ()
                    right = any(kinds)
                    self.assertIs(is_program((bent(one, at, value), STOP)), right)


class RunProgram(HelmCase):
    def ends(self, width, program, cells, told):
        self.assertEqual(run_program(width, program, cells), told)
        self.assertIs(type(run_program(width, program, cells)), tuple)

    def test_each_row(self):
        for one, told in ((("put", 1, -8), (1, -8, 3)), (("copy", 1, 2), (1, 3, 3)), (("add", 0, 1, 2), (5, 2, 3)),
                          (("less", 2, 0, 1), (1, 2, -1)), (("less", 0, 2, 1), (1, 2, 3)), (("times", 2, 1, -3), (1, 2, -6)),
                          (("add", 0, 0, 0), (2, 2, 3)), (("less", 2, 2, 2), (1, 2, 0)), (("times", 0, 0, 0), (0, 2, 3)),
                          (("copy", 0, 0), (1, 2, 3)), (("jump", 1), (1, 2, 3)), (("below", 0, 1, 1), (1, 2, 3)),
                          (STOP, (1, 2, 3))):
            self.ends(8, (one, STOP), (1, 2, 3), told)
            self.ends(4, (one, STOP), (1, 2, 3), told)

    def test_sums_that_leave_the_words(self):
        for width in (4, 8, 32):
            low, high = lowest(width), highest(width)
            self.ends(width, (("add", 0, 0, 1), STOP), (high, 1), (low, 1))
            self.ends(width, (("add", 0, 0, 1), STOP), (low, low), (0, low))
            self.ends(width, (("add", 0, 0, 1), STOP), (high, high), (-2, high))
            self.ends(width, (("less", 0, 0, 1), STOP), (low, 1), (high, 1))
            self.ends(width, (("less", 0, 0, 1), STOP), (0, low), (low, low))
            self.ends(width, (("less", 0, 0, 1), STOP), (low, high), (1, high))

    def test_products_that_leave_the_words(self):
        for width in (4, 8, 32):
            low, high = lowest(width), highest(width)
            for number, word, told in ((low, -1, low), (low, low, 0), (high, high, 1), (high, low, low), (high, 2, -2),
                                       (low, 2, 0), (high, -1, -high)):
                self.ends(width, (("times", 1, 0, word), STOP), (number, 0), (number, told))

    def test_below(self):
        program = (("below", 0, 1, 3), ("put", 2, 0), STOP, ("put", 2, 1), STOP)
        for width in (4, 32):
            words = (lowest(width), -1, 0, 1, highest(width))
            for one in words:
                for other in words:
                    # Words are compared, however far from one another.
                    self.ends(width, program, (one, other, 7), (one, other, int(one < other)))

    def test_jumps(self):
        program = (("jump", 2), ("put", 0, 1), ("jump", 4), ("put", 1, 1), ("put", 2, 1), STOP)
        self.ends(8, program, (0, 0, 0), (0, 0, 1))
        self.ends(8, (("jump", 1), ("put", 0, 5), STOP), (0,), (5,))

    def test_stop_amidst_other_rows(self):
        program = (("below", 0, 1, 2), STOP, ("put", 0, 7), STOP, ("put", 0, 6), STOP)
        self.ends(8, program, (1, 2), (7, 2))
        self.ends(8, program, (2, 2), (2, 2))
        self.ends(8, (STOP, ("put", 0, 1), STOP), (0,), (0,))

    def test_many_rows_and_cells(self):
        program = tuple(("add", at % 128, at % 128, (at + 1) % 128) for at in range(1999)) + (STOP,)
        cells = tuple(at - 64 for at in range(128))
        want = list(cells)
        for at in range(1999):
            want[at % 128] = wrapped(12, want[at % 128] + want[(at + 1) % 128])
        self.ends(12, program, cells, tuple(want))
        self.assertEqual(run_program(cells=(0,), program=(STOP,), width=4), (0,))

    def test_random_programs(self):
        source = random.Random(20)
        for _ in range(150):
            width, many = source.choice((4, 7, 32)), source.randint(1, 5)
            rows = source.randint(1, 25)
            program = []
            for at in range(rows - 1):
                cell, other, third = (source.randrange(many) for _ in range(3))
                word, to = source.randint(lowest(width), highest(width)), source.randint(at + 1, rows - 1)
                program.append(source.choice([("put", cell, word), ("copy", cell, other), ("add", cell, other, third),
                                              ("less", cell, other, third), ("times", cell, other, word), ("jump", to),
                                              ("below", cell, other, to), ("below", cell, other, at + 1), STOP]))
            program.append(STOP)
            cells = tuple(source.randint(lowest(width), highest(width)) for _ in range(many))
            self.ends(width, tuple(program), cells, self.by_hand(width, program, cells))

    def by_hand(self, width, program, cells):
        words, at = dict(enumerate(cells)), 0
        while program[at] != STOP:
            word, first, *rest = program[at]
            at += 1
            if word == "jump":
                at = first
            elif word == "below":
                at = rest[1] if words[first] < words[rest[0]] else at
            else:
                number = {"put": lambda: rest[0], "copy": lambda: words[rest[0]],
                          "add": lambda: words[rest[0]] + words[rest[1]],
                          "less": lambda: words[rest[0]] - words[rest[1]],
                          "times": lambda: words[rest[0]] * rest[1]}[word]()
                words[first] = (number - lowest(width)) % 2 ** width + lowest(width)
        return tuple(words.values())


class WrongInputs(HelmCase):
    def test_width(self):
        for value in NO_FRACTIONS + [3, 33, -8]:
            self.fails_given(InvalidNumber, value, run_program, value, None, None)

    def test_program(self):
        for value in ODD + [[STOP], (STOP,) * 2001]:
            index = 0 if type(value) is tuple and 1 <= len(value) <= 2000 else None
            self.fails_at(InvalidProgram, index, run_program, 8, value, None)
            self.fails_at(InvalidProgram, 1, run_program, 8, (STOP, value, STOP), None)
            self.fails_at(InvalidProgram, 1, run_program, 8, (STOP, value), None)
        for one in ROWS[:-1]:
            self.fails_at(InvalidProgram, 0 if one[0] in LEADS else 2, run_program, 8,
                          (one,) if one[0] in LEADS else (STOP, STOP, one), None)
        self.fails_at(InvalidProgram, 1, run_program, 8, (STOP, ("put", 0, 1)), None)
        self.fails_at(InvalidProgram, 0, run_program, 8, (("put", 0, 128), ("put", 0, 1)), None)
        self.fails_at(InvalidProgram, 1, run_program, 8, (STOP, ("jump", 1), STOP), None)
        self.fails_at(InvalidProgram, 2, run_program, program=(STOP, STOP, ("jump", 9)), cells=None, width=8)

    def test_words_of_the_width(self):
        for width in (4, 8, 31, 32):
            for word, right in ((lowest(width) - 1, False), (lowest(width), True), (highest(width), True),
                                (highest(width) + 1, False)):
                for one in (("put", 0, word), ("times", 0, 0, word)):
                    if right:
                        self.assertEqual(len(run_program(width, (one, STOP), (1,))), 1)
                    else:
                        self.fails_at(InvalidProgram, 1, run_program, width, (STOP, one, STOP), (1,))
                if right:
                    self.assertEqual(run_program(width, (STOP,), (0, word)), (0, word))
                else:
                    self.fails_at(InvalidCells, 1, run_program, width, (STOP,), (0, word))

    def test_cells(self):
        for value in ODD + [(0,) * 129, [0], 5]:
            index = 0 if type(value) is tuple and 1 <= len(value) <= 128 and type(value[0]) is not int else None
            if not (type(value) is tuple and 1 <= len(value) <= 128 and index is None):
                self.fails_at(InvalidCells, index, run_program, 8, ADDING, value)
        for value in NO_FRACTIONS + [128, -129]:
            if not (type(value) is int and -128 <= value <= 127):
                self.fails_at(InvalidCells, 2, run_program, 8, ADDING, (1, 2, value, value))
                self.fails_at(InvalidCells, 0, run_program, cells=(value,), program=ADDING, width=8)
        self.assertEqual(len(run_program(8, ADDING, (0,) * 128)), 128)

    def test_cells_that_are_not_there_are_checked_last(self):
        for one in ROWS:
            for at in CELLS.get(one[0], ()):
                named = bent(one, at, 3)
                # Whether the row would be done or not.
                self.fails_at(InvalidProgram, 1, run_program, 8, (STOP, bent(named, LEADS["below"], 2)
                                                                  if one[0] == "below" else named, STOP), (0, 0, 0))
                self.fails_at(InvalidProgram, 0, run_program, 8, (named, STOP), (0, 0, 0))
                self.fails_at(InvalidCells, 2, run_program, 8, (named, STOP), (0, 0, 300))
                self.assertEqual(len(run_program(8, (named, STOP), (0, 0, 0, 0))), 4)
        self.fails_at(InvalidProgram, 2, run_program, 8, (("put", 0, 1), STOP, ("copy", 0, 127), ("put", 9, 9), STOP), (5,))
        self.fails_at(InvalidProgram, 3, run_program, 8, (("put", 0, 1), STOP, ("copy", 0, 127), ("put", 9, 900), STOP),
                      (5,))


if __name__ == "__main__":
    unittest.main()
