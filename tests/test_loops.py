"""Points 21 and 22: loops and their standings, what fits them, steps, and which standings are safe."""

import random
import unittest
from fractions import Fraction
from itertools import product

from helms import RISING, TANK, branches_by_hand
from rigs import (CART_HELM, CART_LOOP, CART_PLANT, TANK_HELM, TANK_LOOP, TANK_PLANT, begun_by_hand, is_safe_by_hand,
                  limit, made_loops, moved_by_hand, sensor, some_comes, some_start, span, standings_by_hand,
                  step_of_loop, some_rows, with_part)
from safehelms.errors import InvalidComes, InvalidLoop, InvalidRow, InvalidStanding
from safehelms.loops import begun, fits, is_loop, is_safe, is_standing, step
from sums import NO_FRACTIONS, ODD, HelmCase, nested, pair, row

BIG = 10 ** 300
DRIVE = 5
# A standing of the cart: two rows wait, the drive was held once.
CART_AT = (1, 1, row(3, "1/2"), ((1, -2), (3, -4)), -2, (1, (-9, 20)))
CART_OFF = (0, 0, row(3, "1/2"), ((1, -2), (3, -4)), -2, (0, (-9, 20)))
# A reading of X = (3, 1/2) by each sensor: 3; from - 1 to 2 1/2.
CART_COMES = (1, row("-1/4", "1/3"), (3, -1), 1, 0)


def pushed(delay=0, drive=(-5, 5, 0, 0, 0), low=-100, out="level", first=1):
    """A loop whose command is what is heard, any word; X is driven by it alone."""
    plant = ((((row(0),), row(1), row(0)),), (span(-1, 1),), (span(0, 3),), (sensor(1, -1, 1, first),), delay, drive,
             (limit(1, 4), limit(-1, 4)))
    return plant, (8, (("level", low, 100),), (("last", -128, 127, 7, 1), ("lost", -128, 127, -7, 0)), (-50, 50),
                   (("one", (("out", out), ("set", "last", "level"), ("set", "lost", "level"), ("go", "two"))),
                    ("two", (("out", out), ("set", "last", "level"), ("set", "lost", "level"), ("go", "one")))))


class WhatIsALoop(HelmCase):
    def test_loops(self):
        for loop in (TANK_LOOP, CART_LOOP, (TANK_PLANT, TANK), (TANK_PLANT, RISING), pushed()):
            self.assertIs(is_loop(loop), True)
        self.assertIs(is_loop(value=CART_LOOP), True)
        for loop in made_loops(random.Random(2101), 50):
            self.assertIs(is_loop(loop), True)

    def test_as_many_inputs_as_sensors(self):
        for plant, many in ((TANK_PLANT, 1), (CART_PLANT, 2), (with_part(CART_PLANT, 3, CART_PLANT[3][:1]), 1)):
            for controller, inputs in ((TANK_HELM, 1), (CART_HELM, 2), (TANK, 1)):
                self.assertIs(is_loop((plant, controller)), many == inputs)

    def test_things_of_any_kind(self):
        for value in ODD + NO_FRACTIONS + [nested(40), list(TANK_LOOP), TANK_LOOP[::-1], TANK_LOOP + (0,), TANK_LOOP[:1],
                                           TANK_PLANT, TANK_HELM]:
            self.assertIs(is_loop(value), False)
            self.assertIs(is_loop((value, TANK_HELM)), value is TANK_PLANT)
            self.assertIs(is_loop((TANK_PLANT, value)), value is TANK_HELM)
        self.assertIs(is_loop((with_part(TANK_PLANT, 4, 3), TANK_HELM)), False)
        self.assertIs(is_loop((TANK_PLANT, with_part(TANK_HELM, 0, 3))), False)


class Standings(HelmCase):
    def assert_standing(self, is_one, loop, value):
        self.assertIs(is_standing(loop, value), is_one, value)

    def test_standings(self):
        for value in (CART_AT, CART_OFF, begun_by_hand(CART_LOOP, row(0, "1/2"))):
            self.assert_standing(True, CART_LOOP, value)
        self.assert_standing(True, TANK_LOOP, (1, 0, row(-BIG), (), 2, (0, ())))
        self.assertIs(is_standing(value=CART_AT, loop=CART_LOOP), True)

    def test_power_and_held(self):
        for power, held, phase in product(range(-1, 3), range(-1, 5), range(3)):
            value = (power, held, *CART_AT[2:5], (phase, (-9, 20)))
            on = power == 1 and 0 <= held <= 2 and phase in (0, 1)
            self.assert_standing(on or (power, held, phase) == (0, 0, 0), CART_LOOP, value)
            never_cut = (with_part(CART_PLANT, (DRIVE, 4), 0), CART_HELM)
            self.assert_standing(on, never_cut, value)
            never_held = (with_part(CART_PLANT, (DRIVE, 3), 0), CART_HELM)
            self.assert_standing((on or (power, phase) == (0, 0)) and held == 0, never_held, value)

    def test_drive_and_state(self):
        for drive in range(-6, 9):
            self.assert_standing(-3 <= drive <= 5, CART_LOOP, with_part(CART_AT, 4, drive))
        for kept, lost in product((-10, -9, 9, 10), (-5, -4, 20, 21)):
            self.assert_standing(kept in (-9, 9) and lost in (-4, 20), CART_LOOP, with_part(CART_AT, 5, (1, (kept, lost))))
        for state in ((2, (0, 0)), (0, (0,)), (0, (0, 0, 0)), (0, 0, 0), [0, (0, 0)], (0, [0, 0])):
            self.assert_standing(False, CART_LOOP, with_part(CART_AT, 5, state))

    def test_numbers_and_what_waits(self):
        for state, is_one in ((row(BIG, Fraction(-1, BIG)), True), (row(0), False), (row(0, 0, 0), False), ((), False)):
            self.assert_standing(is_one, CART_LOOP, with_part(CART_AT, 2, state))
        for many in range(5):
            self.assert_standing(many == 2, CART_LOOP, with_part(CART_AT, 3, ((0, 0),) * many))
            self.assert_standing(many == 2, CART_LOOP, with_part(CART_AT, (3, 1), (7,) * many))
            self.assert_standing(many == 0, TANK_LOOP, (1, 0, row(5), ((5,),) * many, 0, (0, ())))
        for delay in range(3):
            loop = (with_part(CART_PLANT, 4, delay), CART_HELM)
            for many in range(4):
                self.assert_standing(many == delay, loop, with_part(CART_AT, 3, ((BIG, -BIG),) * many))

    def test_spoilt_ones(self):
        for loop in (TANK_LOOP, CART_LOOP, (TANK_PLANT, TANK), (TANK_PLANT, RISING), pushed(out=("times", 2, "level"))):
            places = {place for phase in range(len(loop[1][4])) for branch in branches_by_hand(loop[1], phase)
                      for place, _ in branch[1]}
            self.assertIn((), places)
            near = {place[:at] for place in places for at in range(5)} | {place + (k,) for place in places
                                                                          for k in range(3)}
            for place in places | near:
                self.assert_standing(place in places, loop, ("spoilt", place))
                self.assert_standing(False, loop, ("spoilt", list(place)))
                if place and 0 in place:
                    self.assert_standing(False, loop, ("spoilt", tuple(False if k == 0 else k for k in place)))
                if place and 1 in place:
                    self.assert_standing(False, loop, ("spoilt", tuple(True if k == 1 else k for k in place)))
        # Of the document's tank: the readings, the commands of both phases, the sum, and the number set.
        for place, is_one in (((), True), ((0, 2, 0), True), ((0,), True), ((0, 3, 0), True), ((0, 3, 1, 2, 1), True),
                              ((0, 3, 1), True), ((0, 3, 1, 2), False), ((0, 2), False), ((1,), False), ((1, 2, 0), False)):
            self.assert_standing(is_one, (TANK_PLANT, TANK), ("spoilt", place))

    def test_things_of_any_kind(self):
        for value in ODD + NO_FRACTIONS + [nested(40), list(CART_AT), CART_AT[:5], CART_AT + (0,), ("spoilt",),
                                           ("spoilt", (), ()), ["spoilt", ()], ("off", ()), (b"spoilt", ()), ("spoilt", 0),
                                           ("spoilt", None), ("spoilt", "")]:
            self.assert_standing(False, CART_LOOP, value)
            self.assert_standing(type(value) is tuple and value in ((), (1,)), CART_LOOP, ("spoilt", value))
            if type(value) is not int:
                self.assert_standing(False, CART_LOOP, ("spoilt", (value,)))
            for at in range(5):
                if not (type(value) is int and at in (0, 1, 4)):
                    self.assert_standing(False, CART_LOOP, with_part(CART_AT, at, value))
            if type(value) is not int:
                for at in ((2, 1), (3, 1, 0), (5, 0), (5, 1, 1)):
                    self.assert_standing(False, CART_LOOP, with_part(CART_AT, at, value))
        for value in ODD:
            for at in ((3, 0), 5, (5, 1)):
                self.assert_standing(False, CART_LOOP, with_part(CART_AT, at, value))
        for at in (0, 1, (5, 0)):
            self.assert_standing(False, CART_LOOP, with_part(CART_AT, at, True))

    def test_errors(self):
        for value in ODD + [TANK_LOOP[:1]]:
            for call in (is_standing, begun, is_safe):
                self.fails_given(InvalidLoop, value, call, value, value)
            self.fails_given(InvalidLoop, value, fits, value, value, value)
            self.fails_given(InvalidLoop, value, step, value, value, value)


class Begun(HelmCase):
    def test_as_told(self):
        self.assertEqual(begun(TANK_LOOP, row(5)), (1, 0, row(5), (), 1, (0, ())))
        self.assertEqual(begun(CART_LOOP, row("1/3", "1/2")),
                         (1, 0, row("1/3", "1/2"), ((0, -7), (0, -7)), -1, (0, (3, 2))))
        one_late = (with_part(CART_PLANT, 4, 1), CART_HELM)
        self.assertEqual(begun(state=row(2, "1/2"), loop=one_late), (1, 0, row(2, "1/2"), ((0, -7),), -1, (0, (3, 2))))

    def test_many(self):
        source = random.Random(2102)
        for loop in made_loops(source, 100):
            state = some_start(source, loop)
            self.assertEqual(begun(loop, state), begun_by_hand(loop, state))
            self.assertIs(is_standing(loop, begun(loop, state)), True)

    def test_rows_within_start(self):
        near = Fraction(1, BIG)
        for number, is_one in ((4, True), (6, True), ("9/2", True), (4 - near, False), (6 + near, False), (-5, False)):
            if is_one:
                self.assertEqual(begun(TANK_LOOP, row(number))[2], row(number))
            else:
                self.fails_at(InvalidRow, None, begun, TANK_LOOP, row(number))
        for state in (row(0, 0), row(3, "1/2"), row(-3, 1), row(0, "1/3")):
            self.fails_at(InvalidRow, None, begun, CART_LOOP, state)

    def test_errors(self):
        for value in [None, (), row(1), row(1, 2, 3), list(row(1, "1/2")), "ab", 7, ...]:
            self.fails_at(InvalidRow, None, begun, CART_LOOP, value)
        for value in NO_FRACTIONS:
            self.fails_at(InvalidRow, 0, begun, CART_LOOP, (value, value))
            self.fails_at(InvalidRow, 1, begun, CART_LOOP, (pair(99), value))


class WhatFits(HelmCase):
    def assert_fits(self, is_so, loop, standing, value):
        self.assertIs(fits(loop, standing, value), is_so, value)
        if is_so:
            self.assertEqual(step(loop, standing, value), step_of_loop(loop, standing, value))
        else:
            self.fails_given(InvalidComes, value, step, loop, standing, value)

    def test_modes_and_noise(self):
        self.assert_fits(True, CART_LOOP, CART_AT, CART_COMES)
        for mode in range(-2, 5):
            self.assert_fits(mode in (0, 1), CART_LOOP, CART_AT, with_part(CART_COMES, 0, mode))
        near = Fraction(1, BIG)
        for one, other in product(("-1/2", 0, "-1/3", Fraction(-1, 2) - near, near),
                                  ("-1/3", "1/3", 0, Fraction(-1, 3) - near, Fraction(1, 3) + near)):
            is_so = Fraction(-1, 2) <= Fraction(one) <= 0 and Fraction(-1, 3) <= Fraction(other) <= Fraction(1, 3)
            self.assert_fits(is_so, CART_LOOP, CART_AT, with_part(CART_COMES, 1, row(one, other)))
            self.assert_fits(is_so, CART_LOOP, CART_AT, (0, row(one, other), (), 0, 1))
        for noise in (row(0), row(0, 0, 0), (), list(row(0, 0)), [(0, 1), (0, 1)]):
            self.assert_fits(False, CART_LOOP, CART_AT, with_part(CART_COMES, 1, noise))

    def test_readings(self):
        for one, other in product(range(1, 6), range(-4, 6)):
            is_so = one == 3 and -1 <= other <= 2
            self.assert_fits(is_so, CART_LOOP, CART_AT, with_part(CART_COMES, 2, (one, other)))
        for at, least, most in (("11/2", 5, 6), ("1/4", 0, 0), (4, 4, 4), ("-11/2", -6, -5)):
            for reading in range(least - 2, most + 3):
                self.assert_fits(least <= reading <= most, TANK_LOOP, (1, 0, row(at), (), 1, (0, ())),
                                 (0, row(0), (reading,), 0, 0))
        for readings in ((), (3,), (3, 0, 0), [3, 0], (3, None), (pair(3), pair(0)), (True, 0), "30"):
            self.assert_fits(False, CART_LOOP, CART_AT, with_part(CART_COMES, 2, readings))

    def test_held(self):
        for holds, held in product(range(4), range(4)):
            loop = (with_part(CART_PLANT, (DRIVE, 3), holds), CART_HELM)
            if held <= holds:
                for holding in range(-1, 4):
                    self.assert_fits(holding == 0 or (holding == 1 and held < holds), loop, with_part(CART_AT, 1, held),
                                     with_part(CART_COMES, 3, holding))
        for holding in (0, 1):
            self.assert_fits(holding == 0, CART_LOOP, CART_OFF, with_part(CART_COMES, 3, holding))

    def test_cut(self):
        never = (with_part(CART_PLANT, (DRIVE, 4), 0), CART_HELM)
        for standing in (CART_AT, CART_OFF, with_part(CART_AT, 1, 2)):
            for cut in range(-1, 4):
                self.assert_fits(cut == 1, CART_LOOP, standing, (0, row(0, 0), (), 0, cut))
                if standing[0] == 1:
                    self.assert_fits(False, never, standing, (0, row(0, 0), (), 0, cut))
            for readings, holding in (((3, 0), 0), ((), 1), ((), -1), ((0,), 0), ([], 0), (None, 0), ("", 0)):
                self.assert_fits(False, CART_LOOP, standing, (0, row(0, 0), readings, holding, 1))
            self.assert_fits(True, CART_LOOP, standing, (0, row(0, 0), (3, 0), 0, 0))

    def test_things_of_any_kind(self):
        for value in ODD + NO_FRACTIONS + [nested(40), list(CART_COMES), CART_COMES[:4], CART_COMES + (0,)]:
            self.assert_fits(False, CART_LOOP, CART_AT, value)
            for at in range(5):
                if not (type(value) is int and at in (0, 3, 4)):
                    self.assert_fits(False, CART_LOOP, CART_AT, with_part(CART_COMES, at, value))
            self.assert_fits(False, CART_LOOP, CART_AT, with_part(CART_COMES, (1, 1), value))
            if value != 3:
                self.assert_fits(False, CART_LOOP, CART_AT, with_part(CART_COMES, (2, 0), value))
        for at, value in ((0, True), (0, False), (3, True), (3, False), (4, False), (4, True)):
            self.assert_fits(False, CART_LOOP, CART_AT, with_part(CART_COMES, at, value))
        self.assertIs(fits(value=CART_COMES, standing=CART_AT, loop=CART_LOOP), True)

    def test_from_each_standing_something_fits(self):
        source = random.Random(2201)
        for loop in made_loops(source, 100):
            state = some_start(source, loop)
            for standing in standings_by_hand(loop, state, some_rows(source, loop, state, 6)):
                if len(standing) == 6:
                    self.assertIs(fits(loop, standing, some_comes(source, loop, standing)), True)

    def test_errors(self):
        spoilt = ("spoilt", ())
        self.assertIs(is_standing(CART_LOOP, spoilt), True)
        for value in ODD + [spoilt, CART_AT[:5], list(CART_AT), with_part(CART_AT, 1, 3), with_part(CART_AT, 0, True)]:
            self.fails_given(InvalidStanding, value, fits, CART_LOOP, value, CART_COMES)
            self.fails_given(InvalidStanding, value, step, CART_LOOP, value, value)
        self.fails_given(InvalidComes, None, step, comes=None, standing=CART_AT, loop=CART_LOOP)


class Steps(HelmCase):
    def assert_step(self, told, loop, standing, comes):
        self.assertEqual(step(loop, standing, comes), told)
        self.assertEqual(step_of_loop(loop, standing, comes), told)
        self.assertIs(is_standing(loop, told), True)

    def test_taken(self):
        # Commands up to 5 and from - 5 on are taken as they are; X is what is taken, and the noise.
        for reading in range(-8, 9):
            taken = max(-5, min(5, reading))
            self.assert_step((1, 0, row(taken + Fraction(1, 2)), (), taken, (1, (reading, reading))), pushed(),
                             (1, 0, row(reading), (), 3, (0, (0, 0))), (0, row("1/2"), (reading,), 0, 0))

    def test_held(self):
        loop = pushed(drive=(-5, 5, 0, 2, 0))
        first = (1, 0, row(4), (), -3, (0, (0, 0)))
        second = (1, 1, row(-3), (), -3, (1, (4, 4)))
        third = (1, 2, row(-4), (), -3, (0, (-2, -2)))
        self.assert_step(second, loop, first, (0, row(0), (4,), 1, 0))
        self.assert_step(third, loop, second, (0, row(-1), (-2,), 1, 0))
        self.assert_step((1, 0, row(-4), (), -4, (1, (-4, -4))), loop, third, (0, row(0), (-4,), 0, 0))
        self.assert_step((1, 0, row(-2), (), -2, (0, (-2, -2))), loop, second, (0, row(0), (-2,), 0, 0))

    def test_cut(self):
        # What is kept stays, all else is as it was at first; the drive rests.
        for delay, waiting in ((0, ()), (1, ((1,),)), (2, ((1,), (1,)))):
            loop = pushed(delay=delay, drive=(-5, 5, -2, 3, 1))
            for power, phase, held in ((1, 1, 2), (1, 0, 0), (0, 0, 0)):
                standing = (power, held, row(4), ((9,), (8,))[:delay], 5, (phase, (33, 44)))
                self.assert_step((0, 0, row("-5/2"), waiting, -2, (0, (33, -7))), loop, standing,
                                 (0, row("-1/2"), (), 0, 1))

    def test_power_comes_back(self):
        loop = pushed(delay=1, drive=(-5, 5, -2, 3, 1))
        off = (0, 0, row(4), ((1,),), -2, (0, (33, -7)))
        self.assert_step((1, 0, row(1), ((3,),), 1, (1, (1, 1))), loop, off, (0, row(0), (3,), 0, 0))

    def test_what_is_heard(self):
        for delay, waiting, heard, behind in ((0, (), 2, ()), (1, ((3,),), 3, ((2,),)),
                                              (2, ((4,), (3,)), 4, ((3,), (2,)))):
            self.assert_step((1, 0, row(heard), behind, heard, (1, (heard, heard))), pushed(delay=delay),
                             (1, 0, row(2), waiting, 0, (0, (0, 0))), (0, row(0), (2,), 0, 0))

    def test_what_leaves(self):
        loop = pushed(low=-2, out=("times", 2, "level"), drive=(-5, 5, 0, 1, 1))
        for reading, place in ((-3, ()), (101, ()), (26, (0,)), (64, (0, 1)), (25, None), (-2, None), (100, (0, 1))):
            standing = (1, 0, row(reading), (), 0, (1, (0, 0)))
            for held in (0, 1):
                comes = (0, row(1), (reading,), held, 0)
                told = ("spoilt", place)
                if place is None:
                    drive = 0 if held else max(-5, min(5, 2 * reading))
                    told = (1, held, row(drive + 1), (), drive, (0, (reading, reading)))
                self.assert_step(told, loop, standing, comes)

    def test_what_comes_leaves_later_what_is_heard_at_once(self):
        loop = pushed(delay=1, low=0)
        self.assert_step((1, 0, row(3), ((-1,),), 3, (1, (3, 3))), loop, (1, 0, row(-1), ((3,),), 0, (0, (0, 0))),
                         (0, row(0), (-1,), 0, 0))
        self.assert_step(("spoilt", ()), loop, (1, 0, row(3), ((-1,),), 0, (0, (0, 0))), (0, row(0), (3,), 0, 0))
        # Power that is lost hears nothing.
        cut = pushed(delay=1, low=0, drive=(-5, 5, 0, 0, 1))
        self.assert_step((0, 0, row(0), ((1,),), 0, (0, (0, -7))), cut, (1, 0, row(3), ((-1,),), 0, (0, (0, 0))),
                         (0, row(0), (), 0, 1))

    def test_modes(self):
        # U is the command within LEAST and MOST: of ride, b less a, here - 2 less 1.
        waiting, state = ((1, -2), (3, -4)), row(3, "1/2")
        for mode in (0, 1):
            noise = row("-1/4", "1/3")
            self.assert_step((1, 0, moved_by_hand(CART_PLANT, mode, state, -3, noise), ((3, -4), (3, 0)), -3,
                              (1, (1, 20))), CART_LOOP, (1, 1, state, waiting, 4, (0, (-9, 20))),
                             (mode, noise, (3, 0), 0, 0))

    def test_many(self):
        source, kinds = random.Random(2202), {}
        for loop in made_loops(source, 250):
            state = some_start(source, loop)
            standing = begun(loop, state)
            for comes in some_rows(source, loop, state, 12):
                then = step(loop, standing, comes)
                self.assertEqual(then, step_of_loop(loop, standing, comes))
                self.assertIs(is_standing(loop, then), True)
                self.assertIs(is_safe(loop, then), len(then) == 6 and is_safe_by_hand(loop[0], then[2]))
                kind = (len(then), comes[3:], is_safe(loop, then))
                kinds[kind] = kinds.get(kind, 0) + 1
                standing = then
        self.assertEqual(sorted(kinds), [(2, (0, 0), False), (2, (1, 0), False), (6, (0, 0), False), (6, (0, 0), True),
                                         (6, (0, 1), False), (6, (0, 1), True), (6, (1, 0), False), (6, (1, 0), True)])


class SafeStandings(HelmCase):
    def test_bounds(self):
        for number, is_so in ((0, True), (10, True), (5, True), ("-1/9", False), ("91/9", False)):
            self.assertIs(is_safe(TANK_LOOP, (1, 0, row(number), (), 0, (0, ()))), is_so)
        self.assertIs(is_safe(standing=CART_AT, loop=CART_LOOP), True)
        self.assertIs(is_safe(CART_LOOP, CART_OFF), True)
        self.assertIs(is_safe(CART_LOOP, with_part(CART_OFF, 2, row(41, 0))), False)

    def test_spoilt_ones_are_none(self):
        for loop in (TANK_LOOP, CART_LOOP, (TANK_PLANT, TANK)):
            for place in {place for branch in branches_by_hand(loop[1], 0) for place, _ in branch[1]}:
                self.assertIs(is_safe(loop, ("spoilt", place)), False)

    def test_errors(self):
        for value in ODD + [("spoilt", (9,)), ("spoilt", (True,)), ("spoilt",), CART_AT[:5], with_part(CART_AT, 4, 6)]:
            self.fails_given(InvalidStanding, value, is_safe, CART_LOOP, value)


if __name__ == "__main__":
    unittest.main()
