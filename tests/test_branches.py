"""Point 14: forms, branches in their order, and that just one of them holds and tells what the step tells."""

import random
import unittest

from helms import (BROAD, RISING, TANK, branches_by_hand, highest, lowest, made_controllers, some_readings, some_state,
                   worth)
from safehelms.branches import branch_at, branch_step, branches_of, worth_of
from safehelms.controllers import is_controller, step_of
from safehelms.errors import (InvalidController, InvalidForm, InvalidNumber, InvalidNumbers, InvalidReadings,
                              InvalidState)
from sums import NO_FRACTIONS, ODD, HelmCase

BIG = 10 ** 300


def one_of(*block, keeps=(("k", -9, 9, 0, 1),), out=(-128, 127)):
    """Numbers are k and a."""
    return (8, (("a", -100, 100),), keeps, out, (("p", block), ("q", (("out", 0),))))


class WorthOf(HelmCase):
    def test_worths(self):
        self.assertEqual(worth_of(((2, -1), 5), (3, 4)), 7)
        self.assertEqual(worth_of(((), -3), ()), -3)
        self.assertEqual(worth_of(numbers=(1,) * 12, form=(tuple(range(12)), 1)), 67)
        self.assertEqual(worth_of(((BIG, -1), 1), (BIG, BIG)), BIG * BIG - BIG + 1)

    def test_forms(self):
        for many in range(14):
            form = ((1,) * many, 0)
            if many <= 12:
                self.assertEqual(worth_of(form, (2,) * many), 2 * many)
            else:
                self.fails_given(InvalidForm, form, worth_of, form, (2,) * many)
        for value in ODD + NO_FRACTIONS + [((1,),), ((1,), 2, 3), ([1], 2), [(1,), 2]]:
            # ((1, 1), 1) is no fraction, but a form.
            if value != ((1, 1), 1):
                self.fails_given(InvalidForm, value, worth_of, value, None)
            if type(value) is not int:
                for form in (((1,), value), ((1, value), 1), ((value, 1), 1)):
                    self.fails_given(InvalidForm, form, worth_of, form, (2,))
                    self.fails_given(InvalidForm, form, worth_of, numbers=None, form=form)

    def test_numbers(self):
        form = ((1, 2, 3), 4)
        for many in range(6):
            if many != 3:
                self.fails_at(InvalidNumbers, None, worth_of, form, (1,) * many)
        for value in ODD + NO_FRACTIONS + [[1, 2, 3]]:
            if type(value) is not tuple or len(value) != 3:
                self.fails_at(InvalidNumbers, None, worth_of, form, value)
            if type(value) is not int:
                for at in range(3):
                    numbers = (1, 2, 3)[:at] + (value,) + (value,) * (2 - at)
                    self.fails_at(InvalidNumbers, at, worth_of, form, numbers)
                    self.fails_at(InvalidNumbers, at, worth_of, numbers=numbers, form=form)


class BranchesOf(HelmCase):
    def guards(self, *block):
        self.assertIs(is_controller(one_of(*block)), True)
        return [branch[0] for branch in branches_of(one_of(*block), 0)]

    # a is ((0, 1), 0), so a - 7 is ((0, 1), -7) and 7 - a - 1 is ((0, -1), 6).
    def test_from_and_above_and_same(self):
        out, go = ("out", 0), (("go", "q"),)
        self.assertEqual(self.guards(out, ("if", ("from", "a", 7), go, ())), [(((0, 1), -7),), (((0, -1), 6),)])
        self.assertEqual(self.guards(out, ("if", ("above", "a", 7), go, ())), [(((0, 1), -8),), (((0, -1), 7),)])
        self.assertEqual(self.guards(out, ("if", ("same", "a", 7), go, ())),
                         [(((0, 1), -7), ((0, -1), 7)), (((0, 1), -8),), (((0, -1), 6),)])
        one = one_of(out, ("if", ("same", "a", "k"), go, ()))
        self.assertEqual([(branch[0], branch[4]) for branch in branches_of(one, 0)],
                         [((((-1, 1), 0), ((1, -1), 0)), 1), ((((-1, 1), -1),), 0), ((((1, -1), -1),), 0)])

    def test_least_and_greatest_and_clamp(self):
        self.assertEqual([(branch[0], branch[3]) for branch in branches_of(one_of(("out", ("least", "a", "k"))), 0)],
                         [((((1, -1), 0),), ((0, 1), 0)), ((((-1, 1), -1),), ((1, 0), 0))])
        self.assertEqual([(branch[0], branch[3]) for branch in branches_of(one_of(("out", ("greatest", "a", "k"))), 0)],
                         [((((-1, 1), 0),), ((0, 1), 0)), ((((1, -1), -1),), ((1, 0), 0))])
        self.assertEqual([(branch[0], branch[3]) for branch in branches_of(one_of(("out", ("clamp", "a", -2, 5))), 0)],
                         [((((0, -1), -3),), ((0, 0), -2)), ((((0, 1), -6),), ((0, 0), 5)),
                          ((((0, 1), 2), ((0, -1), 5)), ((0, 1), 0))])

    def test_forms_without_factors(self):
        self.assertEqual(self.guards(("if", ("from", 1, 2), (("out", 0),), (("out", 1),))),
                         [(((0, 0), -1),), (((0, 0), 0),)])
        self.assertEqual(self.guards(("out", ("clamp", 5, 1, 3))),
                         [(((0, 0), -5),), (((0, 0), 1),), (((0, 0), 4), ((0, 0), -2))])
        self.assertEqual(self.guards(("set", "x", ("less", "a", "a")), ("out", ("least", "x", 3))),
                         [(((0, 0), 3),), (((0, 0), -4),)])

    def test_the_order_of_the_parts(self):
        one = one_of(("out", ("add", ("least", "a", 1), ("greatest", "a", 2))), ("if", ("from", "k", 0), (), ()))
        firsts, seconds = (((0, -1), 1), ((0, 1), -2)), (((0, 1), -2), ((0, -1), 1))
        thirds = (((1, 0), 0), ((-1, 0), -1))
        self.assertEqual([branch[0] for branch in branches_of(one, 0)],
                         [(first, second, third) for first in firsts for second in seconds for third in thirds])

    def test_what_is_left_out_is_not_done(self):
        leaving = ("from", ("add", "a", "k"), 0)
        for word, order in (("and", (0, 1, 1)), ("or", (0, 0, 1))):
            one = one_of(("if", (word, ("from", "a", 5), leaving), (("out", 0),), (("out", 1),)))
            branches = branches_of(one, 0)
            self.assertEqual(len(branches), 3)
            self.assertEqual(tuple(branch[3][1] for branch in branches), order)
            places = [[place for place, _ in branch[1]] for branch in branches]
            ahead = 2 if word == "and" else 0
            self.assertEqual([(0, 1, 2, 1) in part for part in places],
                             [at != ahead for at in range(3)])
        one = one_of(("if", ("not", ("from", "a", 5)), (("out", 0),), (("out", 1),)))
        self.assertEqual([branch[3][1] for branch in branches_of(one, 0)], [1, 0])

    def test_one_block_of_an_if(self):
        one = one_of(("if", ("above", "a", 5), (("out", ("times", 2, "a")), ("go", "q")),
                      (("set", "k", ("add", "k", 1)), ("out", 1))))
        first, second = branches_of(one, 0)
        self.assertEqual(first, ((((0, 1), -6),),
                                 (((), ((0, 1), 100)), ((), ((0, -1), 100)), ((0, 2, 0, 1), ((0, 2), 128)),
                                  ((0, 2, 0, 1), ((0, -2), 127)), ((0, 2, 0), ((0, 2), 128)),
                                  ((0, 2, 0), ((0, -2), 127))), (((1, 0), 0),), ((0, 2), 0), 1))
        self.assertEqual(second, ((((0, -1), 5),),
                                  (((), ((0, 1), 100)), ((), ((0, -1), 100)), ((0, 3, 0, 2), ((1, 0), 129)),
                                   ((0, 3, 0, 2), ((-1, 0), 126)), ((0, 3, 0), ((1, 0), 10)), ((0, 3, 0), ((-1, 0), 8)),
                                   ((0, 3, 1), ((0, 0), 129)), ((0, 3, 1), ((0, 0), 126))), (((1, 0), 1),),
                                  ((0, 0), 1), 0))

    def test_wishes_in_order(self):
        one = one_of(("set", "x", ("less", ("times", 3, "a"), "k")), ("set", "k", 5), ("out", "x"), ("out", "k"),
                     ("set", "k", "a"), out=(-4, 6))
        branch, = branches_of(one, 0)
        self.assertEqual(branch, ((), (
            ((), ((0, 1), 100)), ((), ((0, -1), 100)), ((0, 2, 1), ((0, 3), 128)), ((0, 2, 1), ((0, -3), 127)),
            ((0, 2), ((-1, 3), 128)), ((0, 2), ((1, -3), 127)), ((1,), ((0, 0), 14)), ((1,), ((0, 0), 4)),
            ((2,), ((-1, 3), 4)), ((2,), ((1, -3), 6)), ((3,), ((0, 0), 9)), ((3,), ((0, 0), 1)),
            ((4,), ((0, 1), 9)), ((4,), ((0, -1), 9))), (((0, 1), 0),), ((0, 0), 5), 0))

    def test_inputs_read_or_not(self):
        one = (5, (("b", -1, 2), ("a", 3, 4)), (), (0, 7), (("p", (("out", 7),)),))
        self.assertEqual(branches_of(one, 0), ((
            (), (((), ((1, 0), 1)), ((), ((-1, 0), 2)), ((), ((0, 1), -3)), ((), ((0, -1), 4)),
                 ((0,), ((0, 0), 7)), ((0,), ((0, 0), 0))), (), ((0, 0), 7), 0),))

    def test_keeps_stand_ahead_of_inputs(self):
        one = (8, (("a", 0, 9), ("b", 0, 9)), (("k", 0, 5, 0, 0), ("l", 0, 6, 0, 1), ("m", 0, 7, 0, 1)), (0, 9),
               (("p", (("out", "b"), ("set", "m", "k"), ("set", "k", "a"))),))
        branch, = branches_of(one, 0)
        self.assertEqual(branch[2:4], ((((0, 0, 0, 1, 0), 0), ((0, 1, 0, 0, 0), 0), ((1, 0, 0, 0, 0), 0)),
                                       ((0, 0, 0, 0, 1), 0)))

    def test_phases(self):
        self.assertEqual([branch[4] for branch in branches_of(phase=1, controller=TANK)], [0, 1])
        one = one_of(("out", 0), ("go", "q"), ("if", ("from", "a", 0), (("go", "p"),), ()))
        self.assertEqual([branch[4] for branch in branches_of(one, 0)], [0, 1])
        self.assertEqual([branch[4] for branch in branches_of(one, 1)], [1])

    def test_far_numbers(self):
        block = [("set", "x", ("times", 127, "a"))] + [("set", "x", ("times", -128, "x"))] * 10 + [("out", "x")]
        branch, = branches_of(one_of(*block), 0)
        self.assertEqual(branch[3], ((0, 127 * 128 ** 10), 0))

    def test_random_controllers(self):
        source, many = random.Random(17), 0
        for one in made_controllers(source, 200, is_controller) + [BROAD, TANK, RISING]:
            for phase in range(len(one[4])):
                told = branches_of(one, phase)
                self.assertEqual(told, branches_by_hand(one, phase))
                self.assertEqual(told, branches_of(one, phase))
                many += len(told)
        self.assertGreater(many, 800)

    def test_wrong_inputs(self):
        for value in ODD + [TANK[:4], list(TANK)]:
            self.fails_given(InvalidController, value, branches_of, value, None)
        for value in NO_FRACTIONS + [2, -1, True]:
            if not (type(value) is int and value in (0, 1)):
                self.fails_given(InvalidNumber, value, branches_of, TANK, value)
                self.fails_given(InvalidNumber, value, branches_of, phase=value, controller=TANK)


class OneBranch(HelmCase):
    def judge(self, one, state, readings):
        """Just one guard holds, and its branch tells what the step tells."""
        numbers = state[1] + readings
        branches = branches_of(one, state[0])
        held = [at for at, branch in enumerate(branches) if all(worth(form, numbers) >= 0 for form in branch[0])]
        self.assertEqual(held, [branch_at(one, state, readings)])
        _, wishes, keeps, command, phase = branches[held[0]]
        failed = [place for place, form in wishes if worth(form, numbers) < 0]
        if failed:
            told = ("leaves", failed[0])
        else:
            told = ("step", worth(command, numbers), (phase, tuple(worth(form, numbers) for form in keeps)))
        self.assertEqual(branch_step(one, state, readings), told)
        self.assertEqual(step_of(one, state, readings), told)
        return told[0]

    def test_random_controllers(self):
        source, seen = random.Random(18), {"step": 0, "leaves": 0}
        for one in made_controllers(source, 150, is_controller) + [BROAD] * 20:
            for _ in range(8):
                seen[self.judge(one, some_state(source, one), some_readings(source, one))] += 1
        self.assertGreater(min(seen.values()), 300)

    def test_readings_out_of_their_ranges(self):
        source = random.Random(19)
        for one in made_controllers(source, 80, is_controller):
            for number in (-BIG, lowest(one[0]) - 1, highest(one[0]) + 1, BIG, BIG + 1):
                readings = tuple(source.choice((number, 2 * number)) for _ in one[1])
                self.assertEqual(self.judge(one, some_state(source, one), readings), "leaves")
                self.assertEqual(branch_step(one, some_state(source, one), readings), ("leaves", ()))

    def test_at_the_ends(self):
        for number, at in ((-BIG, 0), (-3, 0), (-2, 2), (5, 2), (6, 1), (BIG, 1)):
            self.assertEqual(branch_at(readings=(number,), state=(0, (0,)),
                                       controller=one_of(("out", ("clamp", "a", -2, 5)))), at)
        one = one_of(("if", ("same", "a", "k"), (("out", 0),), (("out", 1),)))
        self.assertEqual([branch_at(one, (0, (4,)), (number,)) for number in (3, 4, 5)], [2, 0, 1])

    def test_where_a_step_ends_early(self):
        # What parts behind the place where the step leaves parts without it.
        one = one_of(("out", ("times", 2, "a")), ("if", ("above", "a", 90), (("go", "q"),), ()))
        self.assertEqual([branch_at(one, (0, (0,)), (number,)) for number in (90, 91)], [1, 0])
        self.assertEqual(branch_step(one, (0, (0,)), (91,)), ("leaves", (0, 1)))

    def test_wrong_inputs(self):
        for call in (branch_at, branch_step):
            for value in ODD + [TANK[:4], list(TANK)]:
                self.fails_given(InvalidController, value, call, value, None, None)
            for value in ODD + [(2, (0,)), (0, (10,)), (0, ()), [0, (0,)], (True, (0,))]:
                self.fails_given(InvalidState, value, call, TANK, value, None)
            for value in ODD + [(1, 2), [1], 5]:
                index = 0 if type(value) is tuple and len(value) == 1 and type(value[0]) is not int else None
                if not (type(value) is tuple and len(value) == 1 and index is None):
                    self.fails_at(InvalidReadings, index, call, TANK, (0, (0,)), value)
                    self.fails_at(InvalidReadings, index, call, readings=value, state=(0, (0,)), controller=TANK)
            self.fails_at(InvalidReadings, 1, call, BROAD, (0, (0, 0, -1)), (1, True))


if __name__ == "__main__":
    unittest.main()
