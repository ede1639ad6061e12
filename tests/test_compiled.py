"""Point 15, compiled: programs that do their controllers, whatever stands in the other cells."""

import random
import unittest

from helms import (BROAD, RISING, TANK, highest, lowest, made_controllers, some_readings, some_state, step_by_hand)
from safehelms.compiled import cells_for, program_of, told_by
from safehelms.controllers import is_controller, step_of
from safehelms.errors import InvalidCells, InvalidController, InvalidReadings, InvalidState
from safehelms.machine import is_program, run_program, wrapped
from sums import NO_FRACTIONS, ODD, HelmCase

BIG = 10 ** 300


def layout_cells(layout):
    return list(layout[0]) + list(layout[1]) + [layout[2], layout[3]]


class CompiledCase(HelmCase):
    def assert_program(self, one):
        """The program and the layout are as they have to be; both are told on."""
        self.assertIs(is_controller(one), True)
        told = program_of(one)
        self.assertEqual((type(told), len(told), type(told[1]), len(told[1])), (tuple, 2, tuple, 4))
        program, layout = told
        self.assertIs(is_program(program), True)
        self.assertEqual([type(part) for part in layout], [tuple, tuple, int, int])
        self.assertEqual([len(layout[0]), len(layout[1])], [len(one[1]), len(one[2])])
        cells = layout_cells(layout)
        self.assertEqual(len(set(cells)), len(cells))
        many = len(cells_for(one, (0, tuple(keep[3] for keep in one[2])), (0,) * len(one[1])))
        self.assertTrue(all(0 <= cell < many <= 128 for cell in cells))
        # No row names a cell that is not there, and all words are of the width.
        run_program(one[0], program, (0,) * many)
        return program, layout

    def assert_does(self, one, program, layout, state, readings, others):
        """The program does the step, if it tells a command, with these words in the other cells; what the step does."""
        told = step_of(one, state, readings)
        self.assertEqual(told, step_by_hand(one, state, readings))
        if told[0] == "step":
            cells = cells_for(one, state, readings)
            kept = layout_cells(layout)[:-1]
            for begun in (cells, tuple(word if at in kept else others(at) for at, word in enumerate(cells))):
                end = run_program(one[0], program, begun)
                self.assertEqual(told_by(one, end), told[1:])
                self.assertEqual([end[layout[3]], end[layout[2]], *[end[cell] for cell in layout[1]]],
                                 [told[1], told[2][0], *told[2][1]])
        return told[0]


class ProgramOf(CompiledCase):
    def test_random_controllers(self):
        source, seen = random.Random(21), {"step": 0, "leaves": 0}
        for one in made_controllers(source, 250, is_controller, tuple(range(4, 33))) + [BROAD] * 20:
            program, layout = self.assert_program(one)
            self.assertEqual(program_of(controller=one), (program, layout))
            low, high = lowest(one[0]), highest(one[0])
            for _ in range(8):
                seen[self.assert_does(one, program, layout, some_state(source, one), some_readings(source, one),
                                      lambda at: source.choice((low, high, source.randint(low, high))))] += 1
        self.assertGreater(min(seen.values()), 700)

    def test_all_states_and_readings_of_tank(self):
        program, layout = self.assert_program(TANK)
        for phase in (0, 1):
            for count in range(10):
                for level in (-1, 0, 39, 40, 41, 79, 80, 81, 100, 101):
                    self.assert_does(TANK, program, layout, (phase, (count,)), (level,), lambda at: -1 - at)

    def test_words_far_from_one_another(self):
        for width in (4, 5, 8, 17, 31, 32):
            low, high = lowest(width), highest(width)
            words = (low, low + 1, -1, 0, 1, high - 1, high)
            ends = (("a", low, high), ("b", low, high))
            for condition in (("from", "a", "b"), ("above", "a", "b"), ("same", "a", "b"), ("not", ("same", "b", "a")),
                              ("and", ("from", "a", "b"), ("from", "b", 0)), ("or", ("above", "a", "b"), ("same", "a", 0))):
                block = (("if", condition, (("out", 1),), (("out", 0),)),)
                self.over(width, ends, block, words)
            for value in (("least", "a", "b"), ("greatest", "a", "b"), ("clamp", "a", low, high), ("clamp", "b", 0, 0),
                          ("clamp", "a", low, low), ("clamp", ("clamp", "b", high, high), low, 1), ("clamp", "a", -1, 2)):
                self.over(width, ends, (("out", value),), words)

    def over(self, width, ends, block, words):
        """The program of this block does each two words, none of which leaves."""
        one = (width, ends, (), (lowest(width), highest(width)), (("p", block),))
        program, layout = self.assert_program(one)
        for left in words:
            for right in words:
                self.assertEqual(self.assert_does(one, program, layout, (0, ()), (left, right),
                                                  lambda at: lowest(width)), "step")

    def test_locals_and_keeps(self):
        block = (("set", "x", ("add", "a", "k")), ("set", "k", ("less", "x", "k")), ("set", "x", ("add", "x", "x")),
                 ("out", ("less", "x", "k")), ("set", "l", "x"), ("set", "k", "l"))
        one = (16, (("a", -100, 100),), (("k", -500, 500, 0, 1), ("l", -500, 500, 0, 1)), (-999, 999), (("p", block),))
        program, layout = self.assert_program(one)
        for reading in (-100, -7, 0, 3, 100):
            for k in (-40, 0, 25):
                told = self.assert_does(one, program, layout, (0, (k, 5)), (reading,), lambda at: 77)
                self.assertEqual(told, "step")

    def test_what_leaves_in_a_block_not_done_does_no_harm(self):
        block = (("if", ("above", "a", 0), (("out", ("times", 0, "a")),), (("out", ("less", 5, ("times", 2, "a"))),)),)
        one = (8, (("a", -61, 127),), (), (0, 127), (("p", block),))
        program, layout = self.assert_program(one)
        for reading in range(-61, 128):
            self.assertEqual(self.assert_does(one, program, layout, (0, ()), (reading,), lambda at: -128), "step")

    def test_four_phases(self):
        names = ("p", "q", "r", "s")
        phases = tuple((name, (("out", at), ("go", names[(at + 2) % 4]), ("if", ("from", "a", 0), (("go", names[3 - at]),), ())))
                       for at, name in enumerate(names))
        for width in (4, 32):
            one = (width, (("a", -8, 7),), (), (0, 3), phases)
            program, layout = self.assert_program(one)
            for phase in range(4):
                for reading in (-8, -1, 0, 7):
                    told = step_of(one, (phase, ()), (reading,))
                    self.assertEqual(told, ("step", phase, (3 - phase if reading >= 0 else (phase + 2) % 4, ())))
                    self.assert_does(one, program, layout, (phase, ()), (reading,), lambda at: 5 - at % 4)

    def test_the_largest(self):
        # 12 locals, 24 branches, sums and conditions 6 deep, in each of four phases.
        deep = ["a"]
        for _ in range(5):
            deep.append(("add", deep[-1], 1))
        condition = ("from", deep[5], ("less", 0, 1))
        for _ in range(5):
            condition = ("not", condition)
        sets = tuple(("set", "x" + letter, at) for at, letter in enumerate("abcdefghijkl"))
        block = (("if", condition, sets, sets[::-1]), ("out", ("clamp", deep[4], 0, 90)), ("out", ("least", "xl", "xa")),
                 ("set", "m", ("greatest", -5, ("times", 1, "k"))), ("go", "s"))
        keeps = (("k", -5, 5, 0, 1), ("l", -5, 5, 0, 1), ("m", -5, 5, 0, 1))
        one = (8, (("a", -99, 99), ("b", -99, 99)), keeps, (-100, 100), tuple((name, block) for name in "pqrs"))
        program, layout = self.assert_program(one)
        for phase in range(4):
            for reading in (-99, -6, -5, 0, 90, 94):
                self.assertEqual(self.assert_does(one, program, layout, (phase, (-2, 0, 1)), (reading, 7),
                                                  lambda at: 3), "step")

    def test_twelve_locals_beside_the_deepest_sums(self):
        one, other = "a", "a"
        for _ in range(5):
            one, other = ("add", one, 1), ("add", 1, other)
        names = ["x" + letter for letter in "abcdefghijkl"]
        sets = tuple(("set", name, at) for at, name in enumerate(names))
        total = names[6]
        for name in names[7:]:
            total = ("add", total, name)
        block = (("if", ("from", "b", 0), sets, sets[::-1]),
                 ("if", ("same", one, other), (("set", "m", ("add", ("times", 10, "xk"), "xl")),), (("set", "m", -1),)),
                 ("out", total))
        keeps = (("k", -5, 5, 0, 1), ("l", -5, 5, 0, 1), ("m", -1, 120, 0, 1))
        both = (8, (("a", -99, 99), ("b", -99, 99)), keeps, (-100, 100), (("p", block),))
        program, layout = self.assert_program(both)
        for reading in (-99, 0, 94):
            self.assertEqual(self.assert_does(both, program, layout, (0, (1, 2, 3)), (reading, 7), lambda at: 50), "step")
            self.assertEqual(step_of(both, (0, (1, 2, 3)), (reading, 7)), ("step", 51, (0, (1, 2, 111))))

    def test_wrong_inputs(self):
        for value in ODD + [TANK[:4], list(TANK)]:
            self.fails_given(InvalidController, value, program_of, value)
            self.fails_given(InvalidController, value, program_of, controller=value)


class CellsFor(CompiledCase):
    def test_by_the_layout(self):
        source = random.Random(22)
        for one in made_controllers(source, 60, is_controller) + [BROAD, TANK, RISING]:
            _, layout = program_of(one)
            many = None
            for _ in range(5):
                state = some_state(source, one)
                readings = tuple(source.choice((0, 5, -BIG, BIG, 2 ** 40)) for _ in one[1])
                cells = cells_for(readings=readings, state=state, controller=one)
                self.assertIs(type(cells), tuple)
                self.assertTrue(1 <= len(cells) <= 128)
                self.assertIn(many, (None, len(cells)))
                many = len(cells)
                want = [0] * many
                for cell, number in zip(layout[0] + layout[1] + (layout[2],), readings + state[1] + (state[0],)):
                    want[cell] = wrapped(one[0], number)
                self.assertEqual(cells, tuple(want))

    def test_wrong_inputs(self):
        for value in ODD + [TANK[:4], list(TANK)]:
            self.fails_given(InvalidController, value, cells_for, value, None, None)
        for value in ODD + [(2, (0,)), (0, (10,)), [0, (0,)]]:
            self.fails_given(InvalidState, value, cells_for, TANK, value, None)
        for value in ODD + [(1, 2), [1], 5]:
            if not (type(value) is tuple and len(value) == 1):
                self.fails_at(InvalidReadings, None, cells_for, TANK, (0, (0,)), value)
        for value in NO_FRACTIONS:
            if type(value) is not int:
                self.fails_at(InvalidReadings, 1, cells_for, BROAD, (0, (0, 0, -1)), (1, value))
                self.fails_at(InvalidReadings, 0, cells_for, readings=(value,), state=(0, (0,)), controller=TANK)


class ToldBy(CompiledCase):
    def with_words(self, one, words):
        cells = list(cells_for(one, (0, tuple(keep[3] for keep in one[2])), (0,) * len(one[1])))
        for cell, word in words.items():
            cells[cell] = word
        return tuple(cells)

    def test_whatever_the_command_is(self):
        _, (readings, keeps, phase, command) = program_of(TANK)
        for word in (-128, -1, 0, 5, 6, 127):
            self.assertEqual(told_by(TANK, self.with_words(TANK, {command: word, keeps[0]: 3, phase: 1})), (word, (1, (3,))))

    def test_no_state(self):
        _, (readings, keeps, phase, command) = program_of(TANK)
        for count in (-128, -1, 0, 9, 10, 127):
            for index in (-1, 0, 1, 2, 127):
                cells = self.with_words(TANK, {keeps[0]: count, phase: index, command: 4})
                right = 0 <= count <= 9 and index in (0, 1)
                self.assertEqual(told_by(cells=cells, controller=TANK), (4, (index, (count,))) if right else None)
        _, layout = program_of(BROAD)
        words = dict(zip(layout[1] + layout[2:], (9, 500, -1, 3, 12)))
        self.assertEqual(told_by(BROAD, self.with_words(BROAD, words)), (12, (3, (9, 500, -1))))
        for at, word in ((0, 10), (1, 501), (2, 0), (2, -4)):
            self.assertIsNone(told_by(BROAD, self.with_words(BROAD, {**words, layout[1][at]: word})))

    def test_wrong_inputs(self):
        for value in ODD + [TANK[:4], list(TANK)]:
            self.fails_given(InvalidController, value, told_by, value, None)
        cells = self.with_words(TANK, {})
        for value in ODD + [cells[:-1], cells + (0,), list(cells), ()]:
            self.fails_at(InvalidCells, None, told_by, TANK, value)
        for value in NO_FRACTIONS + [128, -129]:
            if not (type(value) is int and -128 <= value <= 127):
                for at in (0, 1, len(cells) - 1):
                    self.fails_at(InvalidCells, at, told_by, TANK, cells[:at] + (value,) * (len(cells) - at))
                self.fails_at(InvalidCells, 2, told_by, cells=cells[:2] + (value,) + cells[3:], controller=TANK)


if __name__ == "__main__":
    unittest.main()
