"""Point 13: states, steps, what leaves and where, runs, and what a cut leaves."""

import random
import unittest

from helms import BROAD, RISING, TANK, made_controllers, some_readings, some_state, step_by_hand
from safehelms.controllers import first_state, is_controller, is_state, restarted, run_from, step_of
from safehelms.errors import InvalidController, InvalidReadings, InvalidRows, InvalidState
from sums import NO_FRACTIONS, ODD, HelmCase

BIG = 10 ** 300
KEEPS = (("k", -100, 100, 0, 1),)


def doing(*block, keeps=KEEPS, out=(-128, 127)):
    """A controller with the inputs a and b, each any word, one phase of this block and one more."""
    return (8, (("a", -128, 127), ("b", -128, 127)), keeps, out, (("p", block), ("q", (("out", -1),))))


def summing(value):
    return doing(("out", value))


class StepCase(HelmCase):
    def assert_tells(self, controller, told, *readings, state=(0, (0,))):
        self.assertIs(is_controller(controller), True)
        self.assertEqual(step_of(controller, state, readings), told)
        self.assertEqual(step_by_hand(controller, state, readings), told)
        self.assertIs(type(step_of(controller, state, readings)), tuple)

    def assert_command(self, value, command, *readings):
        self.assert_tells(summing(value), ("step", command, (0, (0,))), *readings)

    def assert_leaves(self, controller, place, *readings, state=(0, (0,))):
        self.assert_tells(controller, ("leaves", place), *readings, state=state)


class States(HelmCase):
    def test_is_state(self):
        for phase in range(-2, 6):
            self.assertIs(is_state(BROAD, (phase, (0, 0, -1))), 0 <= phase < 4)
        for at, (_, low, high, _, _) in enumerate(BROAD[2]):
            for number in (low - 1, low, low + 1, high - 1, high, high + 1, BIG, -BIG):
                numbers = (0, 0, -1)[:at] + (number,) + (0, 0, -1)[at + 1:]
                self.assertIs(is_state(BROAD, (0, numbers)), low <= number <= high)
        self.assertIs(is_state(value=(0, ()), controller=RISING), True)

    def test_whatever_the_value_is(self):
        for value in ODD + NO_FRACTIONS + [(0, (0, 0, -1), 0), (0,), [0, (0, 0, -1)], (0, [0, 0, -1])]:
            self.assertIs(is_state(BROAD, value), False)
            self.assertIs(is_state(BROAD, (0, value)), False)
            self.assertIs(is_state(RISING, (0, value)), value == () and type(value) is tuple)
            if not (type(value) is int and value in (0, 1)):
                self.assertIs(is_state(BROAD, (value, (0, 0, -1))), False)
            if type(value) is not int:
                self.assertIs(is_state(TANK, (0, (value,))), False)
        for many in range(5):
            self.assertIs(is_state(BROAD, (0, (0, 0, -1, -1)[:many])), many == 3)
            self.assertIs(is_state(RISING, (0, (0,) * many)), many == 0)

    def test_first_state(self):
        self.assertEqual(first_state(BROAD), (0, (-1, 7, -2)))
        self.assertEqual(first_state(controller=TANK), (0, (0,)))
        self.assertEqual(first_state(RISING), (0, ()))

    def test_restarted(self):
        self.assertEqual(restarted(BROAD, (3, (5, 100, -3))), (0, (5, 7, -3)))
        self.assertEqual(restarted(state=(1, (9,)), controller=TANK), (0, (9,)))
        self.assertEqual(restarted(RISING, (0, ())), (0, ()))
        none = TANK[:2] + ((("count", 0, 9, 3, 0),),) + TANK[3:]
        self.assertEqual(restarted(none, (1, (9,))), (0, (3,)))


class Sums(StepCase):
    def test_words_and_names(self):
        self.assert_command(-128, -128, 1, 2)
        self.assert_command("a", 1, 1, 2)
        self.assert_command("b", 2, 1, 2)
        self.assert_tells(summing("k"), ("step", -7, (0, (-7,))), 1, 2, state=(0, (-7,)))

    def test_add_and_less(self):
        self.assert_command(("add", "a", "b"), 127, 100, 27)
        self.assert_command(("add", "a", "b"), -128, -100, -28)
        self.assert_command(("less", "a", "b"), -128, -100, 28)
        self.assert_command(("less", "a", "b"), 127, 27, -100)
        self.assert_leaves(summing(("add", "a", "b")), (0, 1), 100, 28)
        self.assert_leaves(summing(("add", "a", "b")), (0, 1), -100, -29)
        self.assert_leaves(summing(("less", "a", "b")), (0, 1), -100, 29)
        self.assert_leaves(summing(("less", "a", "b")), (0, 1), 28, -100)
        self.assert_leaves(summing(("less", 0, "a")), (0, 1), -128, 0)

    def test_times(self):
        self.assert_command(("times", 3, "a"), 126, 42, 0)
        self.assert_command(("times", -2, "a"), -128, 64, 0)
        self.assert_command(("times", 0, "a"), 0, -128, 0)
        self.assert_leaves(summing(("times", 3, "a")), (0, 1), 43, 0)
        self.assert_leaves(summing(("times", -2, "a")), (0, 1), -64, 0)
        self.assert_leaves(summing(("times", -1, "a")), (0, 1), -128, 0)

    def test_least_and_greatest(self):
        for one, other in ((1, 2), (2, 1), (-128, 127), (127, -128), (5, 5)):
            self.assert_command(("least", "a", "b"), min(one, other), one, other)
            self.assert_command(("greatest", "a", "b"), max(one, other), one, other)

    def test_clamp(self):
        for number in range(-128, 128):
            self.assert_command(("clamp", "a", -5, 7), max(-5, min(number, 7)), number, 0)
        self.assert_command(("clamp", "a", 3, 3), 3, 100, 0)
        self.assert_leaves(summing(("clamp", ("add", "a", "b"), -5, 7)), (0, 1, 1), 127, 1)

    def test_within_one_another(self):
        self.assert_command(("add", ("times", 2, "a"), ("less", "b", ("clamp", "a", 0, 1))), 12, 4, 5)
        # What is on the way leaves, though it would come back into the words.
        self.assert_leaves(summing(("less", ("add", "a", "b"), "b")), (0, 1, 1), 127, 1)
        self.assert_leaves(summing(("least", 0, ("times", 2, "a"))), (0, 1, 2), 64, 1)


class Conditions(StepCase):
    def assert_so(self, condition, so, *readings):
        self.assert_tells(doing(("if", condition, (("out", 1),), (("out", 0),))),
                          ("step", int(so), (0, (0,))), *readings)

    def test_comparisons(self):
        for one in (-128, -1, 0, 1, 127):
            for other in (-128, -1, 0, 1, 127):
                self.assert_so(("from", "a", "b"), one >= other, one, other)
                self.assert_so(("above", "a", "b"), one > other, one, other)
                self.assert_so(("same", "a", "b"), one == other, one, other)
                self.assert_so(("not", ("from", "a", "b")), one < other, one, other)

    def test_and_or(self):
        yes, no = ("same", "a", "a"), ("above", "a", "a")
        for one in (yes, no):
            for other in (yes, no):
                self.assert_so(("and", one, other), one == other == yes, 0, 0)
                self.assert_so(("or", one, other), yes in (one, other), 0, 0)
                self.assert_so(("not", ("or", one, other)), one == other == no, 0, 0)

    def test_what_is_settled_is_left_out(self):
        yes, no, leaving = ("same", "a", "a"), ("above", "a", "a"), ("same", ("add", "a", 1), 0)
        self.assert_so(("and", no, leaving), False, 127, 0)
        self.assert_so(("or", yes, leaving), True, 127, 0)
        self.assert_so(("and", ("not", yes), leaving), False, 127, 0)
        for word, one, at in (("and", yes, 2), ("or", no, 2)):
            self.assert_leaves(doing(("if", (word, one, leaving), (), ()), ("out", 0)), (0, 1, at, 1), 127, 0)
            self.assert_leaves(doing(("if", (word, leaving, one), (), ()), ("out", 0)), (0, 1, 1, 1), 127, 0)
        self.assert_leaves(doing(("if", ("not", ("not", leaving)), (), ()), ("out", 0)), (0, 1, 1, 1, 1), 127, 0)

    def test_one_block_alone_is_done(self):
        one = doing(("if", ("from", "a", 0), (("out", ("add", "b", 1)),), (("out", ("less", "b", 1)),)))
        self.assert_tells(one, ("step", -127, (0, (0,))), 0, -128)
        self.assert_leaves(one, (0, 3, 0, 1), -1, -128)
        self.assert_leaves(one, (0, 2, 0, 1), 0, 127)


class Statements(StepCase):
    def test_set_has_the_numbers_of_just_then(self):
        one = doing(("set", "x", "a"), ("set", "a_", ("add", "x", 1)), ("set", "x", ("times", 2, "a_")), ("out", "x"),
                    ("set", "k", "x"), ("set", "k", ("less", "k", 1)))
        self.assert_tells(one, ("step", 8, (0, (7,))), 3, 0)

    def test_out_in_the_place_of_what_was_told(self):
        self.assert_tells(doing(("out", 1), ("out", 2), ("out", "a")), ("step", 3, (0, (0,))), 3, 0)
        self.assert_tells(doing(("out", 1), ("if", ("from", "a", 0), (("out", 5),), ())), ("step", 5, (0, (0,))), 0, 0)
        self.assert_tells(doing(("out", 1), ("if", ("from", "a", 0), (("out", 5),), ())), ("step", 1, (0, (0,))), -1, 0)

    def test_out_ends_nothing(self):
        self.assert_tells(doing(("out", 1), ("set", "k", 5), ("go", "q")), ("step", 1, (1, (5,))), 0, 0)

    def test_go(self):
        self.assert_tells(doing(("out", 1)), ("step", 1, (0, (0,))), 0, 0)
        self.assert_tells(doing(("go", "q"), ("out", 1)), ("step", 1, (1, (0,))), 0, 0)
        self.assert_tells(doing(("go", "q"), ("out", 1), ("go", "p")), ("step", 1, (0, (0,))), 0, 0)
        self.assert_tells(doing(("out", 1)), ("step", -1, (1, (0,))), 0, 0, state=(1, (0,)))

    def test_blocks_of_no_statement(self):
        self.assert_tells(doing(("if", ("from", "a", 0), (), (("go", "q"),)), ("out", 1)), ("step", 1, (0, (0,))), 0, 0)


class Leaves(StepCase):
    def test_readings_ahead_of_all_else(self):
        one = (8, (("a", -5, 5), ("b", 0, 9)), KEEPS, (0, 0), (("p", (("out", ("times", 100, "a")),)),))
        for readings, told in (((6, 0), ()), ((-6, 0), ()), ((0, 10), ()), ((0, -1), ()), ((6, 10), ()),
                               ((BIG, 0), ()), ((0, -BIG), ()), ((5, 9), (0, 1)), ((1, 0), (0,)), ((-5, 0), (0, 1))):
            self.assert_leaves(one, told, *readings)
        self.assert_tells(one, ("step", 0, (0, (0,))), 0, 9)

    def test_keeps_out_of_their_ranges(self):
        one = doing(("out", 0), ("set", "k", "a"), ("set", "k", 0))
        self.assert_tells(one, ("step", 0, (0, (0,))), 100, 0)
        self.assert_tells(one, ("step", 0, (0, (0,))), -100, 0)
        # Also where another number comes in its place later.
        self.assert_leaves(one, (1,), 101, 0)
        self.assert_leaves(one, (1,), -101, 0)

    def test_commands_out_of_their_range(self):
        one = doing(("out", "a"), ("out", 0), out=(-3, 4))
        for number in range(-9, 10):
            if -3 <= number <= 4:
                self.assert_tells(one, ("step", 0, (0, (0,))), number, 0)
            else:
                self.assert_leaves(one, (0,), number, 0)

    def test_locals_have_no_range(self):
        self.assert_tells(doing(("set", "x", "a"), ("out", 0)), ("step", 0, (0, (0,))), 127, 0)
        self.assert_leaves(doing(("set", "x", ("add", "a", 1)), ("out", 0)), (0, 2), 127, 0)

    def test_the_first_thing_that_leaves(self):
        one = doing(("set", "x", ("add", ("add", "a", 1), ("add", "b", 1))), ("set", "k", ("times", 2, "x")), ("out", 9),
                    out=(0, 5))
        self.assert_leaves(one, (0, 2, 1), 127, 127)
        self.assert_leaves(one, (0, 2, 2), 0, 127)
        self.assert_leaves(one, (0, 2), 100, 100)
        self.assert_leaves(one, (1, 2), 60, 10)
        self.assert_leaves(one, (1,), 50, 10)
        self.assert_leaves(one, (2,), 1, 1)

    def test_parts_ahead_of_their_sum(self):
        # 127 + 1 leaves ahead of its product, and the sum of the command ahead of its range.
        self.assert_leaves(doing(("out", ("times", 5, ("add", "a", 1))), out=(0, 1)), (0, 1, 2), 127, 0)
        self.assert_leaves(doing(("out", ("times", 5, ("add", "a", 1))), out=(0, 1)), (0, 1), 100, 0)
        self.assert_leaves(doing(("out", ("times", 5, ("add", "a", 1))), out=(0, 1)), (0,), 1, 0)

    def test_places_within_blocks(self):
        inner = ("if", ("above", "b", 0), (("go", "q"), ("out", ("add", "a", 1))), (("set", "k", "a"),))
        one = doing(("out", 0), ("if", ("from", "a", 0), (), (("out", "a"), inner)), ("if", ("from", "b", "b"), (inner,),
                                                                                        ()))
        self.assert_leaves(one, (2, 2, 0, 2, 1, 1), 127, 1)
        self.assert_leaves(one, (2, 2, 0, 3, 0), 127, 0)
        self.assert_leaves(one, (1, 3, 1, 3, 0), -128, 0)
        self.assert_tells(one, ("step", 1, (1, (0,))), 0, 1)
        self.assert_tells(one, ("step", -127, (1, (0,))), -128, 1)

    def test_places_within_conditions(self):
        deep = ("and", ("from", "a", "a"), ("or", ("above", "a", "a"), ("same", 0, ("greatest", 0, ("times", 2, "a")))))
        one = doing(("out", 0), ("if", ("not", deep), (), ()))
        self.assert_leaves(one, (1, 1, 1, 2, 2, 2, 2), 64, 0)
        self.assert_tells(one, ("step", 0, (0, (0,))), 63, 0)


class Steps(StepCase):
    def test_random_controllers(self):
        source, seen = random.Random(14), {"step": 0, "leaves": 0}
        for one in made_controllers(source, 150, is_controller):
            for _ in range(12):
                state, readings = some_state(source, one), some_readings(source, one)
                told = step_of(one, state, readings)
                self.assertEqual(told, step_by_hand(one, state, readings))
                self.assertEqual(told, step_of(readings=readings, state=state, controller=one))
                if told[0] == "step":
                    self.assertIs(is_state(one, told[2]), True)
                    self.assertTrue(one[3][0] <= told[1] <= one[3][1])
                seen[told[0]] += 1
        self.assertGreater(min(seen.values()), 400)

    def test_broad(self):
        source = random.Random(15)
        for _ in range(300):
            state, readings = some_state(source, BROAD), some_readings(source, BROAD)
            self.assertEqual(step_of(BROAD, state, readings), step_by_hand(BROAD, state, readings))


class Runs(HelmCase):
    def test_from_state_to_state(self):
        self.assertEqual(run_from(TANK, (0, (8,)), ((10,), (90,), (-1,), (5,))),
                         (("step", 5, (0, (9,))), ("step", 0, (1, (9,))), ("leaves", ())))
        self.assertEqual(run_from(rows=(), state=(0, (8,)), controller=TANK), ())
        self.assertEqual(run_from(TANK, (1, (8,)), ((-1,),)), (("leaves", ()),))

    def test_as_steps_tell(self):
        source = random.Random(16)
        for one in made_controllers(source, 60, is_controller):
            state = some_state(source, one)
            rows = tuple(some_readings(source, one) for _ in range(source.randint(0, 8)))
            told = run_from(one, state, rows)
            self.assertIs(type(told), tuple)
            for step, readings in zip(told, rows):
                self.assertEqual(step, step_of(one, state, readings))
                state = step[-1]
            left = [step[0] for step in told]
            self.assertEqual(left.count("leaves"), int(left[-1:] == ["leaves"]))
            self.assertTrue(len(told) == len(rows) or left[-1] == "leaves")

    def test_sixty_rows(self):
        self.assertEqual(len(run_from(TANK, (0, (0,)), ((50,),) * 60)), 60)
        self.fails_at(InvalidRows, None, run_from, TANK, (0, (0,)), ((50,),) * 61)


class WrongInputs(HelmCase):
    def test_controllers(self):
        for value in ODD + [TANK[:4], list(TANK)]:
            self.fails_given(InvalidController, value, first_state, value)
            self.fails_given(InvalidController, value, is_state, value, None)
            self.fails_given(InvalidController, value, restarted, value, None)
            self.fails_given(InvalidController, value, step_of, value, None, None)
            self.fails_given(InvalidController, value, run_from, rows=None, state=None, controller=value)

    def test_states(self):
        for value in ODD + [(2, (0,)), (0, (10,)), (0, (-1,)), (0, ()), (0, (0, 0)), [0, (0,)], (True, (0,))]:
            self.fails_given(InvalidState, value, restarted, TANK, value)
            self.fails_given(InvalidState, value, step_of, TANK, value, None)
            self.fails_given(InvalidState, value, run_from, TANK, value, None)
            self.fails_given(InvalidState, value, step_of, readings=None, state=value, controller=TANK)

    def test_readings(self):
        state = (0, (0, 0, -1))
        for value in ODD + [(1, 2, 3), [1, 2], 5]:
            index = None if type(value) is not tuple or len(value) != 2 else 0
            self.fails_at(InvalidReadings, index, step_of, BROAD, state, value)
        for value in ODD + NO_FRACTIONS:
            if type(value) is not int:
                self.fails_at(InvalidReadings, 0, step_of, BROAD, state, (value, value))
                self.fails_at(InvalidReadings, 1, step_of, BROAD, state, (5, value))
                self.fails_at(InvalidReadings, 1, step_of, readings=(5, value), state=state, controller=BROAD)

    def test_rows(self):
        state = (0, (0,))
        for value in ODD + [((5,),) * 61, [(5,)], 5]:
            # The row () is one; one number alone is no readings.
            if value != () or type(value) is not tuple:
                index = None if type(value) is not tuple or len(value) > 60 else 0
                self.fails_at(InvalidRows, index, run_from, TANK, state, value)
        for value in ODD + NO_FRACTIONS + [(5, 6), [5], (True,)]:
            if not (type(value) is tuple and len(value) == 1 and type(value[0]) is int):
                self.fails_at(InvalidRows, 1, run_from, TANK, state, ((5,), value, value))
                # Those behind one that leaves are looked at, too.
                self.fails_at(InvalidRows, 2, run_from, TANK, state, ((-1,), (5,), value))


if __name__ == "__main__":
    unittest.main()
