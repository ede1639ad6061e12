"""Points 18 and 19: what is a plant, where it goes on to, what its sensors read, what its drive takes."""

import random
import unittest
from fractions import Fraction

from rigs import (CART_PLANT, TANK_PLANT, Rigger, is_safe_by_hand, limit, made_loops, moved_by_hand, readings_by_hand,
                  sensor, span, with_part)
from safehelms.errors import InvalidNumber, InvalidPlant, InvalidRow
from safehelms.plants import is_plant, is_safe_row, moved, readings_of, within_drive
from sums import NO_FRACTIONS, ODD, HelmCase, nested, pair, row

BIG = 10 ** 300
MODES, NOISE, START, SENSORS, DELAY, DRIVE, SAFE = range(7)


def sized(size, modes=1):
    """A plant of so many numbers."""
    none = row(*[0] * size)
    return ((((none,) * size, none, none),) * modes, (span(0, 0),) * size, (span(0, 1),) * size,
            ((none, pair(0), pair(1), 0),), 0, (0, 0, 0, 0, 0), ((none, pair(0)),))


class WhatIsAPlant(HelmCase):
    def assert_plant(self, is_one, plant):
        self.assertIs(is_plant(plant), is_one, plant)

    def test_plants(self):
        for plant in (TANK_PLANT, CART_PLANT):
            self.assert_plant(True, plant)
        self.assertIs(is_plant(value=TANK_PLANT), True)
        rigger = Rigger(random.Random(1801))
        for sensors in (1, 2) * 100:
            self.assert_plant(True, rigger.plant(sensors))

    def test_how_many_numbers(self):
        for size in range(1, 6):
            self.assert_plant(size <= 3, sized(size))
        self.assert_plant(False, ((((), (), ()),), (), (), (((), pair(0), pair(1), 0),), 0, (0, 0, 0, 0, 0),
                                  (((), pair(0)),)))
        # All parts are of one size.
        for plant, other in ((sized(2), sized(1)), (sized(2), sized(3)), (sized(1), sized(2))):
            for at in (MODES, NOISE, START, SENSORS, SAFE):
                self.assert_plant(False, with_part(plant, at, other[at]))
            for at in range(3):
                self.assert_plant(False, with_part(plant, (MODES, 0, at), other[MODES][0][at]))
            self.assert_plant(False, with_part(plant, (MODES, 0, 0, 0), other[MODES][0][0][0]))

    def test_how_many_modes_sensors_and_pairs_of_safe(self):
        for many in range(6):
            self.assert_plant(1 <= many <= 3, sized(2, many))
        for many in range(5):
            self.assert_plant(1 <= many <= 2, with_part(CART_PLANT, SENSORS, CART_PLANT[SENSORS][:1] * many))
        for many in range(10):
            self.assert_plant(1 <= many <= 6, with_part(CART_PLANT, SAFE, CART_PLANT[SAFE][:1] * many))
        for at in (NOISE, START):
            for many in range(5):
                self.assert_plant(many == 2, with_part(CART_PLANT, at, CART_PLANT[at][:1] * many))

    def test_parts_of_a_mode(self):
        mode = CART_PLANT[MODES][1]
        for other in (mode[:2], mode[1:], mode + mode[2:], mode + ((),), mode[::-1], (mode[0] + mode[1:2], *mode[1:]),
                      (mode[0][:1], *mode[1:]), list(mode), ((*mode[0], row(0, 0)), *mode[1:]), (list(mode[0]), *mode[1:])):
            self.assert_plant(False, with_part(CART_PLANT, (MODES, 1), other))
            self.assert_plant(True, with_part(CART_PLANT, (MODES, 1), mode))

    def test_low_up_to_high(self):
        for at in (NOISE, START):
            for low, high in ((0, 0), (-1, 1), ("-1/2", "-1/2"), ("1/3", "1/2"), (-BIG, BIG), ("-1/2", "-1/3")):
                self.assert_plant(True, with_part(CART_PLANT, (at, 1), span(low, high)))
                if low != high:
                    self.assert_plant(False, with_part(CART_PLANT, (at, 1), span(high, low)))
            for value in [span(0, 1)[:1], span(0, 1) + row(1), list(span(0, 1)), pair(1)]:
                self.assert_plant(False, with_part(CART_PLANT, (at, 0), value))

    def test_high_of_a_sensor_from_low_and_1_on(self):
        near = Fraction(1, 10 ** 50)
        for low in (0, Fraction(-1, 2), Fraction(1, 3), -7, BIG):
            for wide, is_one in ((1, True), (1 + near, True), (5, True), (1 - near, False), (0, False), (-1, False)):
                self.assert_plant(is_one, with_part(CART_PLANT, (SENSORS, 1), sensor(1, 1, low, low + wide, 4)))
        for first in (0, -1, 7, BIG, -BIG):
            self.assert_plant(True, with_part(CART_PLANT, (SENSORS, 0, 3), first))
        for value in [(), sensor(1, 1, 0, 1, 0)[:3], sensor(1, 1, 0, 1, 0) + (0,), list(sensor(1, 1, 0, 1, 0))]:
            self.assert_plant(False, with_part(CART_PLANT, (SENSORS, 0), value))

    def test_delay_and_drive(self):
        for delay in range(-2, 6):
            self.assert_plant(0 <= delay <= 2, with_part(CART_PLANT, DELAY, delay))
        for holds in range(-2, 7):
            self.assert_plant(0 <= holds <= 3, with_part(CART_PLANT, (DRIVE, 3), holds))
        for cuts in range(-2, 4):
            self.assert_plant(0 <= cuts <= 1, with_part(CART_PLANT, (DRIVE, 4), cuts))
        for rest in range(-6, 9):
            self.assert_plant(-3 <= rest <= 5, with_part(CART_PLANT, (DRIVE, 2), rest))
        for drive, is_one in (((2, 2, 2, 0, 0), True), ((-BIG, BIG, 0, 3, 1), True), ((3, 2, 2, 0, 0), False),
                              ((3, 2, 3, 0, 0), False), ((0, 1, 0, 0), False), ((0, 1, 0, 0, 0, 0), False),
                              ([0, 1, 0, 0, 0], False), ((), False)):
            self.assert_plant(is_one, with_part(CART_PLANT, DRIVE, drive))

    def test_things_of_any_kind(self):
        for value in ODD + NO_FRACTIONS + [nested(40), list(TANK_PLANT), TANK_PLANT[:-1], TANK_PLANT + (0,)]:
            self.assert_plant(False, value)
            for at in range(7):
                if not (at == DELAY and type(value) is int and 0 <= value <= 2):
                    self.assert_plant(False, with_part(CART_PLANT, at, value))
            for at in (MODES, NOISE, START, SENSORS, SAFE):
                self.assert_plant(False, with_part(CART_PLANT, (at, 0), value))
                self.assert_plant(False, with_part(CART_PLANT, at, list(CART_PLANT[at])))

    def test_parts_of_any_kind(self):
        deep = ((MODES, 1, 0), (MODES, 0, 0, 1), (MODES, 1, 1), (MODES, 0, 2), (SENSORS, 1, 0), (SAFE, 2, 0))
        fractions = ((MODES, 1, 0, 1, 0), (MODES, 0, 1, 1), (MODES, 1, 2, 0), (NOISE, 0, 0), (NOISE, 1, 1),
                     (START, 0, 1), (START, 1, 0), (SENSORS, 0, 0, 1), (SENSORS, 1, 1), (SENSORS, 0, 2),
                     (SAFE, 0, 0, 1), (SAFE, 2, 1))
        for value in NO_FRACTIONS:
            for at in deep + fractions:
                self.assert_plant(False, with_part(CART_PLANT, at, value))
            if type(value) is not int:
                for at in [(SENSORS, 0, 3)] + [(DRIVE, k) for k in range(5)]:
                    self.assert_plant(False, with_part(CART_PLANT, at, value))


class GoingOn(HelmCase):
    def assert_moved(self, told, plant, mode, state, drive, noise):
        self.assertEqual(moved(plant, mode, row(*state), drive, row(*noise)), row(*told))
        self.assertEqual(moved_by_hand(plant, mode, row(*state), drive, row(*noise)), row(*told))

    def test_each_mode(self):
        self.assert_moved(["3/2"], TANK_PLANT, 0, [1], 2, [0])
        self.assert_moved([-3], TANK_PLANT, 0, [0], -5, [0])
        # 2 + 3 / 2 - 1 / 7 = 47 / 14; 9 / 4 - 1 / 3.
        self.assert_moved(["47/14", "23/12"], CART_PLANT, 0, [2, 3], 1, [0, 0])
        # 5 + 1 / 4; - 1 / 4 + 3 / 2 + 2 + 5 / 6 = 49 / 12.
        self.assert_moved(["21/4", "49/12"], CART_PLANT, 1, [2, 3], 1, [0, 0])
        self.assertEqual(moved(noise=row(0), drive=2, row=row(1), mode=0, plant=TANK_PLANT), row("3/2"))

    def test_noise_of_any_size_and_great_numbers(self):
        self.assert_moved([100], TANK_PLANT, 0, [0], 1, [100])
        self.assert_moved([Fraction(1, BIG) - BIG], TANK_PLANT, 0, [Fraction(1, BIG)], 1, [-BIG])
        self.assert_moved([BIG], TANK_PLANT, 0, [0], 2 * BIG + 1, [0])
        self.assert_moved([BIG - Fraction(1, 7), Fraction(3, 2) * BIG], CART_PLANT, 0, [0, 2 * BIG], 0, [0, 0])

    def test_by_hand(self):
        source = random.Random(1901)
        for plant, _ in made_loops(source, 150):
            state, noise = Rigger(source).row(len(plant[1]), 30), Rigger(source).row(len(plant[1]), 3)
            mode, drive = source.randrange(len(plant[0])), source.randint(-20, 20)
            self.assertEqual(moved(plant, mode, state, drive, noise), moved_by_hand(plant, mode, state, drive, noise))

    def test_errors(self):
        for value in ODD + [TANK_PLANT[:6]]:
            self.fails_given(InvalidPlant, value, moved, value, value, value, value, value)
            if type(value) is not int:
                self.fails_given(InvalidNumber, value, moved, CART_PLANT, value, value, value, value)
                self.fails_given(InvalidNumber, value, moved, CART_PLANT, 0, row(0, 0), value, value)
        for mode in (-1, 2, 3, BIG):
            self.fails_given(InvalidNumber, mode, moved, CART_PLANT, mode, None, None, None)
        for value in [None, (), row(1), row(1, 2, 3), list(row(1, 2)), "ab", 7]:
            self.fails_at(InvalidRow, None, moved, CART_PLANT, 1, value, None, None)
            self.fails_at(InvalidRow, None, moved, CART_PLANT, 1, row(0, 0), 4, value)
        for value in NO_FRACTIONS:
            for at in range(2):
                wrong = with_part(row(0, 0), at, value)
                self.fails_at(InvalidRow, at, moved, CART_PLANT, 1, wrong, None, None)
                self.fails_at(InvalidRow, at, moved, CART_PLANT, 1, row(0, 0), -4, wrong)
            self.fails_at(InvalidRow, 0, moved, CART_PLANT, 1, (value, value), value, value)


class SafeRows(HelmCase):
    def test_bounds(self):
        for number in (0, 10, 5, Fraction(1, 9)):
            self.assertIs(is_safe_row(TANK_PLANT, row(number)), True)
        for number in (Fraction(-1, BIG), 10 + Fraction(1, BIG), -BIG, BIG):
            self.assertIs(is_safe_row(TANK_PLANT, row(number)), False)
        self.assertIs(is_safe_row(row=row(1, 1), plant=CART_PLANT), True)
        # 40 / 2 + 243 / 2 / 3 is 121 / 2.
        self.assertIs(is_safe_row(CART_PLANT, row(40, "243/2")), True)
        self.assertIs(is_safe_row(CART_PLANT, row(40, "244/2")), False)
        self.assertIs(is_safe_row(CART_PLANT, row("81/2", 0)), False)
        one_sided = with_part(TANK_PLANT, SAFE, (limit(1, 3),))
        self.assertEqual([is_safe_row(one_sided, row(k)) for k in (2, 3, 4, -50)], [True, True, False, True])

    def test_by_hand(self):
        source, told = random.Random(1902), []
        for plant, _ in made_loops(source, 150):
            state = Rigger(source).row(len(plant[1]), 6)
            told.append(is_safe_by_hand(plant, state))
            self.assertIs(is_safe_row(plant, state), told[-1])
        self.assertTrue(20 < told.count(True) < 130)

    def test_errors(self):
        for call in (is_safe_row, readings_of):
            for value in ODD + [TANK_PLANT[:6]]:
                self.fails_given(InvalidPlant, value, call, value, value)
                self.fails_given(InvalidPlant, value, call, row=value, plant=value)
            for value in [None, (), row(1), row(1, 2, 3), list(row(1, 2)), "ab", 7, {}]:
                self.fails_at(InvalidRow, None, call, CART_PLANT, value)
            for value in NO_FRACTIONS:
                self.fails_at(InvalidRow, 0, call, CART_PLANT, (value, value))
                self.fails_at(InvalidRow, 1, call, CART_PLANT, (pair(1), value))


class Readings(HelmCase):
    def seen(self, state, low, high):
        plant = with_part(TANK_PLANT, SENSORS, (sensor(1, low, high, 0),))
        told = readings_of(plant, row(state))
        self.assertEqual(told, tuple((seen[0], seen[-1]) for seen in readings_by_hand(plant, row(state))))
        return told[0]

    def test_ends(self):
        self.assertEqual(self.seen("11/2", "-1/2", "1/2"), (5, 6))
        self.assertEqual(self.seen("1/4", "-1/2", "1/2"), (0, 0))
        self.assertEqual(self.seen(0, "-1/2", "1/2"), (0, 0))
        # Whole numbers at both ends, at one of them, beside them.
        self.assertEqual(self.seen(3, -2, 4), (1, 7))
        self.assertEqual(self.seen(3, 0, 1), (3, 4))
        self.assertEqual(self.seen("5/2", "1/2", 2), (3, 4))
        self.assertEqual(self.seen("5/2", "1/3", "3/2"), (3, 4))
        self.assertEqual(self.seen("5/2", "-1/2", Fraction(3, 2) - Fraction(1, BIG)), (2, 3))
        self.assertEqual(self.seen("5/2", Fraction(1, BIG) - Fraction(1, 2), 2), (3, 4))

    def test_below_0(self):
        self.assertEqual(self.seen("-11/2", "-1/2", "1/2"), (-6, -5))
        self.assertEqual(self.seen("-1/4", "-1/2", "1/2"), (0, 0))
        self.assertEqual(self.seen(-3, -2, 0), (-5, -3))
        self.assertEqual(self.seen("-7/3", "-1/3", "5/3"), (-2, -1))
        self.assertEqual(self.seen(-BIG, "1/2", "5/2"), (1 - BIG, 2 - BIG))

    def test_each_sensor(self):
        # 5 - 1 / 2 up to 5 + 1 / 2; 5 / 2 - 1 - 2 up to 5 / 2 - 1 + 3 / 2.
        self.assertEqual(readings_of(CART_PLANT, row(5, 1)), ((5, 5), (0, 3)))
        self.assertEqual(readings_of(row=row("1/2", 0), plant=CART_PLANT), ((0, 1), (-1, 1)))

    def test_there_always_is_one(self):
        source = random.Random(1903)
        for plant, _ in made_loops(source, 200):
            state = Rigger(source).row(len(plant[1]), 20)
            told = readings_of(plant, state)
            self.assertEqual(told, tuple((seen[0], seen[-1]) for seen in readings_by_hand(plant, state)))
            self.assertTrue(all(least <= most for least, most in told))


class Drives(HelmCase):
    def test_from_both_sides(self):
        for command in range(-8, 12):
            self.assertEqual(within_drive(TANK_PLANT, command), min(max(command, 0), 2))
            self.assertEqual(within_drive(CART_PLANT, command), sorted((-3, command, 5))[1])
            one = with_part(TANK_PLANT, (DRIVE,), (2, 2, 2, 0, 0))
            self.assertEqual(within_drive(one, command), 2)
        self.assertEqual([within_drive(CART_PLANT, BIG), within_drive(CART_PLANT, -BIG)], [5, -3])
        self.assertEqual(within_drive(command=-4, plant=CART_PLANT), -3)

    def test_errors(self):
        for value in ODD + [TANK_PLANT[:6]]:
            self.fails_given(InvalidPlant, value, within_drive, value, value)
            if type(value) is not int:
                self.fails_given(InvalidNumber, value, within_drive, TANK_PLANT, value)
        self.fails_given(InvalidNumber, True, within_drive, command=True, plant=TANK_PLANT)


if __name__ == "__main__":
    unittest.main()
