"""Point 17: kept words, written cell by cell and cut wherever it may be."""

import random
import unittest

from helms import BROAD, RISING, TANK, made_controllers, some_state
from safehelms.controllers import first_state, is_controller, restarted
from safehelms.errors import InvalidController, InvalidMemory, InvalidState, InvalidWrites
from safehelms.stored import blank, is_memory, restored, writes_of, written
from sums import NO_FRACTIONS, ODD, HelmCase

# Of its keeps the first and the last are kept: slots of four words.
BROAD_BLANK = (0, -1, -2, 0, 2, -1, -2, 2)


def keeping(*kept):
    """A controller with a keep for each of these."""
    keeps = tuple((name, -4, 5, at, one) for at, (name, one) in enumerate(zip("klm", kept)))
    return (8, (("a", 0, 9),), keeps, (0, 0), (("p", (("out", 0),)), ("q", (("out", 0),))))


def as_kept(controller, state):
    return tuple(number for keep, number in zip(controller[2], state[1]) if keep[4] == 1)


class Blank(HelmCase):
    def test_blank(self):
        self.assertEqual(blank(TANK), (0, 0, 0, 2, 0, 2))
        self.assertEqual(blank(BROAD), BROAD_BLANK)
        self.assertEqual(blank(controller=RISING), (0, 0, 2, 2))
        self.assertEqual(blank(keeping(0, 0, 0)), (0, 0, 2, 2))
        self.assertEqual(blank(keeping(1, 1, 1)), (0, 0, 1, 2, 0, 2, 0, 1, 2, 2))
        for one in (TANK, BROAD, RISING):
            self.assertIs(is_memory(one, blank(one)), True)
            self.assertEqual(restored(one, blank(one)), first_state(one))

    def test_wrong_inputs(self):
        for value in ODD + [TANK[:4], list(TANK)]:
            self.fails_given(InvalidController, value, blank, value)
            self.fails_given(InvalidController, value, blank, controller=value)


class IsMemory(HelmCase):
    def test_marks(self):
        for one in range(-1, 5):
            for two in range(-1, 5):
                for three in range(-1, 5):
                    for four in range(-1, 5):
                        first = one == two and one in (0, 1, 2)
                        second = three == four and three in (0, 1, 2)
                        right = (first or second) and not (first and second and one == three)
                        self.assertIs(is_memory(TANK, (one, 3, two, three, 9, four)), right)
                        self.assertIs(is_memory(RISING, (one, two, three, four)), right)

    def test_numbers_out_of_their_ranges(self):
        for low, high in ((-1, 0), (0, -1), (10, 9), (9, 10), (-1, 10), (0, 9), (-128, 127), (127, 3)):
            right = 0 <= low <= 9 or 0 <= high <= 9
            self.assertIs(is_memory(TANK, (1, low, 1, 2, high, 2)), right)
            both = 0 <= low <= 9 and 0 <= high <= 9
            self.assertIs(is_memory(TANK, (1, low, 1, 1, high, 1)), right and not both)
            self.assertIs(is_memory(TANK, (1, low, 1, 0, high, 1)), 0 <= low <= 9)
        self.assertIs(is_memory(TANK, (7, -9, 3, 1, 0, 1)), True)

    def test_words(self):
        for word in (-129, -128, 127, 128):
            self.assertIs(is_memory(TANK, (word, 0, 0, 1, 0, 1)), -128 <= word <= 127)
            self.assertIs(is_memory(TANK, (0, word, 0, 1, 0, 1)), -128 <= word <= 127)

    def test_how_many_words(self):
        for many in range(14):
            self.assertIs(is_memory(BROAD, (BROAD_BLANK * 2)[:many]), many == 8)
            self.assertIs(is_memory(RISING, ((0, 0, 2, 2) * 4)[:many]), many == 4)

    def test_whatever_the_value_is(self):
        for value in ODD + NO_FRACTIONS + [list(BROAD_BLANK)]:
            self.assertIs(is_memory(BROAD, value), False)
            for at in range(8):
                if type(value) is not int:
                    self.assertIs(is_memory(BROAD, BROAD_BLANK[:at] + (value,) + BROAD_BLANK[at + 1:]), False)
        self.assertIs(is_memory(value=(1, 1, 0, 1), controller=RISING), True)

    def test_wrong_inputs(self):
        for value in ODD + [TANK[:4], list(TANK)]:
            self.fails_given(InvalidController, value, is_memory, value, None)


class Writes(HelmCase):
    def test_the_slot_that_is_not_the_newer_one(self):
        state = (1, (7,))
        for memory, begin, mark in (((0, 0, 0, 2, 0, 2), 3, 1), ((0, 0, 0, 1, 0, 1), 0, 2), ((2, 0, 2, 1, 0, 1), 3, 0),
                                    ((2, 0, 2, 0, 0, 0), 0, 1), ((1, 0, 1, 0, 0, 0), 3, 2), ((1, 0, 1, 2, 0, 2), 0, 0),
                                    ((0, 0, 0, 1, 0, 2), 3, 1), ((1, 0, 1, 1, 0, 0), 3, 2), ((2, 0, 2, 5, 0, 5), 3, 0),
                                    ((1, 0, 0, 0, 0, 0), 0, 1), ((1, 10, 1, 1, 0, 1), 0, 2), ((9, 9, 9, 2, 0, 2), 0, 0)):
            self.assertEqual(writes_of(TANK, memory, state), ((begin, mark), (begin + 1, 7), (begin + 2, mark)))

    def test_all_cells_in_order(self):
        # Those of words that stand there already, too.
        self.assertEqual(writes_of(TANK, (0, 0, 0, 1, 5, 2), (0, (5,))), ((3, 1), (4, 5), (5, 1)))
        self.assertEqual(writes_of(state=(2, (9, 300, -3)), memory=BROAD_BLANK, controller=BROAD),
                         ((4, 1), (5, 9), (6, -3), (7, 1)))
        self.assertEqual(writes_of(RISING, (0, 0, 2, 2), (0, ())), ((2, 1), (3, 1)))
        self.assertEqual(writes_of(keeping(0, 1, 1), (0, 1, 2, 0, 1, 3, 4, 1), (0, (5, -4, 5))),
                         ((0, 2), (1, -4), (2, 5), (3, 2)))

    def test_wrong_inputs(self):
        for value in ODD + [TANK[:4], list(TANK)]:
            self.fails_given(InvalidController, value, writes_of, value, None, None)
        for value in ODD + [(0, 0, 0, 0, 0, 0), (0, 0, 1, 1, 0, 2), (0, 0, 0, 2, 0), [0, 0, 0, 2, 0, 2]]:
            self.fails_given(InvalidMemory, value, writes_of, TANK, value, None)
        for value in ODD + [(2, (0,)), (0, (10,)), (0, ()), [0, (0,)]]:
            self.fails_given(InvalidState, value, writes_of, TANK, blank(TANK), value)
            self.fails_given(InvalidState, value, writes_of, state=value, memory=blank(TANK), controller=TANK)


class Written(HelmCase):
    def test_one_after_the_other(self):
        self.assertEqual(written(TANK, blank(TANK), ()), blank(TANK))
        self.assertEqual(written(TANK, blank(TANK), ((3, 1), (4, 9), (5, 1))), (0, 0, 0, 1, 9, 1))
        self.assertEqual(written(writes=((0, 5), (0, 6), (5, -128)), memory=blank(TANK), controller=TANK),
                         (6, 0, 0, 2, 0, -128))

    def test_a_memory_or_not(self):
        told = written(TANK, blank(TANK), ((3, 0), (5, 0)))
        self.assertEqual(told, (0, 0, 0, 0, 0, 0))
        self.assertIs(is_memory(TANK, told), False)

    def test_wrong_inputs(self):
        memory = blank(TANK)
        for value in ODD + [TANK[:4], list(TANK)]:
            self.fails_given(InvalidController, value, written, value, None, None)
        for value in ODD + [(0, 0, 0, 0, 0, 0), [0, 0, 0, 2, 0, 2]]:
            self.fails_given(InvalidMemory, value, written, TANK, value, None)
        for value in ODD + [((0, 0),) * 201, [(0, 0)], 5]:
            if value != () or type(value) is not tuple:
                self.fails_at(InvalidWrites, 0 if type(value) is tuple and len(value) <= 200 else None,
                              written, TANK, memory, value)
        self.assertEqual(written(TANK, memory, ((4, 3),) * 200), (0, 0, 0, 2, 3, 2))
        for value in ODD + [(6, 0), (-1, 0), (0, 128), (0, -129), (0,), (0, 0, 0), [0, 0], (True, 0), (0, True),
                            ("0", 0), (0, None), (0, (0,))]:
            self.fails_at(InvalidWrites, 0, written, TANK, memory, (value, value))
            self.fails_at(InvalidWrites, 2, written, TANK, memory, ((5, 127), (0, -128), value, value))
            self.fails_at(InvalidWrites, 1, written, writes=((5, 127), value), memory=memory, controller=TANK)


class Restored(HelmCase):
    def test_what_is_kept(self):
        self.assertEqual(restored(TANK, (0, 3, 0, 1, 5, 1)), (0, (5,)))
        self.assertEqual(restored(TANK, (0, 3, 0, 2, 5, 2)), (0, (3,)))
        self.assertEqual(restored(memory=(1, 3, 1, 2, 5, 2), controller=TANK), (0, (5,)))
        self.assertEqual(restored(TANK, (1, 3, 1, 2, 5, 1)), (0, (3,)))
        self.assertEqual(restored(TANK, (1, 10, 1, 0, 5, 0)), (0, (5,)))
        self.assertEqual(restored(BROAD, (1, 4, -3, 1, 0, 1, -1, 0)), (0, (4, 7, -3)))
        self.assertEqual(restored(RISING, (1, 1, 5, 6)), (0, ()))
        self.assertEqual(restored(keeping(0, 1, 0), (2, -4, 2, 1, 5, 1)), (0, (0, -4, 2)))

    def test_wrong_inputs(self):
        for value in ODD + [TANK[:4], list(TANK)]:
            self.fails_given(InvalidController, value, restored, value, None)
        for value in ODD + [(0, 0, 0, 0, 0, 0), (0, 0, 1, 1, 0, 2), [0, 0, 0, 2, 0, 2], (0, 10, 0, 2, -1, 2)]:
            self.fails_given(InvalidMemory, value, restored, TANK, value)
            self.fails_given(InvalidMemory, value, restored, memory=value, controller=TANK)


class Cuts(HelmCase):
    def assert_kept(self, one, memory, last):
        """The newer slot holds what was kept of the last state written whole; restoring again tells the same."""
        self.assertIs(is_memory(one, memory), True)
        told = restored(one, memory)
        self.assertEqual(told, restored(one, memory))
        self.assertEqual(told, restarted(one, last))
        self.assertEqual(as_kept(one, told), as_kept(one, last))

    def go_on(self, one, memory, last, state, cut):
        """Write the state up to the cut; the memory and the last state written whole then."""
        writes = writes_of(one, memory, state)
        memory = written(one, memory, writes[:cut])
        last = state if cut >= len(writes) else last
        self.assert_kept(one, memory, last)
        return memory, last

    def test_cut_at_each_write_again_and_again(self):
        many = len(as_kept(TANK, first_state(TANK))) + 2
        reached = [(blank(TANK), first_state(TANK))]
        for turn in range(4):
            found = {}
            for memory, last in reached:
                for state in ((0, (1 + turn,)), (1, (2 * turn,)), (0, (0,))):
                    for cut in range(many + 1):
                        memory_behind, last_behind = self.go_on(TANK, memory, last, state, cut)
                        found[memory_behind, last_behind] = True
            reached = list(found)
        self.assertGreater(len(reached), 100)

    def test_each_mark_comes(self):
        memory, marks = blank(TANK), []
        for number in range(7):
            memory, _ = self.go_on(TANK, memory, None, (0, (number,)), 3)
            marks.append((memory[0], memory[3]))
        self.assertEqual(marks, [(0, 1), (2, 1), (2, 0), (1, 0), (1, 2), (0, 2), (0, 1)])

    def test_one_state_cut_without_end(self):
        memory, last = blank(BROAD), first_state(BROAD)
        for turn in range(40):
            state = (turn % 4, (turn % 10, turn, -1 - turn % 3))
            memory, last = self.go_on(BROAD, memory, last, state, turn % 4)
        self.assertEqual(restored(BROAD, memory), first_state(BROAD))
        memory, last = self.go_on(BROAD, memory, last, (3, (5, 6, -3)), 4)
        self.assertEqual(restored(BROAD, memory), (0, (5, 7, -3)))

    def test_random_controllers(self):
        source = random.Random(25)
        for one in made_controllers(source, 60, is_controller):
            memory, last = blank(one), first_state(one)
            many = len(as_kept(one, last)) + 2
            for _ in range(25):
                state = some_state(source, one)
                memory, last = self.go_on(one, memory, last, state, source.choice((source.randint(0, many), many)))


if __name__ == "__main__":
    unittest.main()
