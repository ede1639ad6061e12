"""Points 24, 25 and 26: places, numbers and charts of loops, and the case told for each step."""

import random
import unittest
from fractions import Fraction

from helms import TANK
from rigs import (CART_LOOP, CART_PLANT, TANK_LOOP, TANK_PLANT, begun_by_hand, cases_by_hand, chart_by_hand,
                  coming_by_hand, limit, made_loops, numbers_by_hand, places_by_hand, sensor, some_comes, some_rows,
                  some_start, span, standings_by_hand, step_of_loop, too_many_by_hand, with_part)
from safehelms.cases import cases_for, chart_of, numbers_of, numbers_that_come, places_of
from safehelms.charts import is_chart, step
from safehelms.errors import InvalidComes, InvalidLoop, InvalidStanding, TooMany
from safehelms.loops import begun, is_loop
from sums import ODD, HelmCase, lies, lot, pair, row

DELAY, DRIVE = 4, 5


def driven(delay=0, drive=(0, 3, 1, 0, 0), modes=1, block=(("out", "level"),), phases=1, keeps=(), low=0):
    """A loop of one number with small parts, each told as it is."""
    mode = ((row("1/2"),), row("1/3"), row("1/4"))
    plant = ((mode, ((row(2),), row(-1), row(0)))[:modes], (span("-1/8", "1/5"),), (span(1, 2),),
             (sensor(3, "-1/2", "2/3", 7),), delay, drive, (limit(1, 9),))
    return plant, (8, (("level", low, 9),), keeps, (-5, 6), tuple((name, block) for name in "abcd"[:phases]))


def told(*numbers):
    """A number of a map: the row's factors and, behind them, what is added."""
    return row(*numbers[:-1]), pair(numbers[-1])


class Places(HelmCase):
    def test_as_told(self):
        self.assertEqual(places_of(TANK_LOOP), ((0, 0, 1), ("spoilt",)))
        self.assertEqual(places_of(loop=driven(drive=(0, 3, 1, 2, 1), phases=2)),
                         ((0, 0, 1), (0, 1, 1), (0, 2, 1), (1, 0, 1), (1, 1, 1), (1, 2, 1), ("off",), ("spoilt",)))
        self.assertEqual(places_of(driven(drive=(0, 3, 1, 0, 1))), ((0, 0, 1), ("off",), ("spoilt",)))
        self.assertEqual(places_of(driven(drive=(0, 3, 1, 1, 0))), ((0, 0, 1), (0, 1, 1), ("spoilt",)))

    def test_errors(self):
        for value in ODD + [TANK_LOOP[:1]]:
            for call in (places_of, chart_of):
                self.fails_given(InvalidLoop, value, call, value)


class Numbers(HelmCase):
    def test_as_told(self):
        self.assertEqual(numbers_of(TANK_LOOP, begun(TANK_LOOP, row("9/2"))), row("9/2", 1))
        loop = driven(delay=2, keeps=(("k", -3, 3, 2, 0), ("m", 0, 9, 4, 1)))
        self.assertEqual(numbers_of(loop, begun(loop, row("3/2"))), row("3/2", 7, 7, 1, 2, 4))
        self.assertEqual(numbers_of(standing=(1, 0, row(5), ((8,), (-9,)), 3, (0, (-3, 0))), loop=loop),
                         row(5, 8, -9, 3, -3, 0))
        self.assertEqual(numbers_that_come(TANK_LOOP, begun(TANK_LOOP, row(5)), (0, row("1/8"), (5,), 0, 0)),
                         row("1/8", 5))
        cut = driven(drive=(0, 3, 1, 0, 1))
        self.assertEqual(numbers_that_come(comes=(0, row("1/5"), (), 0, 1), standing=begun(cut, row(1)), loop=cut),
                         row("1/5", 0))

    def test_two_numbers_and_sensors(self):
        plant = with_part(CART_PLANT, DELAY, 1)
        loop = (plant, (10, (("a", -200, 200), ("b", -500, 500)), (("k", 0, 9, 3, 1),), (0, 0), (("p", (("out", 0),)),)))
        standing = (1, 0, row(2, "1/3"), ((5, -6),), -2, (0, (8,)))
        self.assertEqual(numbers_of(loop, standing), row(2, "1/3", 5, -6, -2, 8))
        self.assertEqual(numbers_that_come(loop, standing, (0, row("-1/2", "1/3"), (2, 1), 0, 0)),
                         row("-1/2", "1/3", 2, 1))
        self.assertEqual(numbers_that_come(loop, standing, (0, row("-1/2", "1/3"), (), 0, 1)), row("-1/2", "1/3", 0, 0))

    def test_errors(self):
        standing, comes = begun(TANK_LOOP, row(5)), (0, row(0), (5,), 0, 0)
        for value in ODD:
            self.fails_given(InvalidLoop, value, numbers_of, value, value)
        for value in ODD + [("spoilt", ()), TANK_LOOP, standing[:5]]:
            self.fails_given(InvalidStanding, value, numbers_of, TANK_LOOP, value)
            for call in (numbers_that_come, cases_for):
                self.fails_given(InvalidStanding, value, call, TANK_LOOP, value, value)
        for value in ODD + [comes[:4], with_part(comes, 2, (7,)), with_part(comes, 3, 1), with_part(comes, 4, 1)]:
            for call in (numbers_that_come, cases_for):
                self.fails_given(InvalidLoop, value, call, value, value, value)
                self.fails_given(InvalidComes, value, call, TANK_LOOP, standing, value)


class Charts(HelmCase):
    def assert_chart(self, loop):
        self.assertIs(is_loop(loop), True)
        chart = chart_of(loop)
        self.assertIs(is_chart(chart), True)
        self.assertEqual(chart, chart_by_hand(loop))
        return chart

    def test_start_and_safe_lots(self):
        # Of X, what waits, U and a keep: X from 1 up to 2, all others from themselves up to themselves.
        loop = driven(delay=1, keeps=(("k", -3, 3, -2, 0),), drive=(0, 3, 1, 0, 1))
        size, coming, starts, _, safes = self.assert_chart(loop)
        self.assertEqual((size, coming), (4, 2))
        self.assertEqual(starts, ((0, lot(4, (1, 0, 0, 0, 2), (-1, 0, 0, 0, -1), (0, 1, 0, 0, 7), (0, -1, 0, 0, -7),
                                          (0, 0, 1, 0, 1), (0, 0, -1, 0, -1), (0, 0, 0, 1, -2), (0, 0, 0, -1, 2))),))
        self.assertEqual(safes, (lot(4, (1, 0, 0, 0, 9)), lot(4, (1, 0, 0, 0, 9)), lot(4, (0, 0, 0, 0, -1))))

    def test_each_case_in_order(self):
        # Numbers X, U and, behind them, NOISE and the reading.
        ends = ((0, 0, 1, 0, "1/5"), (0, 0, -1, 0, "1/8"), (-3, 0, 0, 1, "2/3"), (3, 0, 0, -1, "1/2"))
        still = (told(1, 0, 0, 0, 0), told(0, 1, 0, 0, 0))
        cases = self.assert_chart(driven())[3]
        self.assertEqual(cases, (
            (0, lot(4, (0, 0, 0, 1, -1), *ends), still, 1), (0, lot(4, (0, 0, 0, -1, -10), *ends), still, 1),
            (0, lot(4, (0, 0, 0, 1, -6), *ends), still, 1), (0, lot(4, (0, 0, 0, -1, -7), *ends), still, 1),
            (0, lot(4, (0, 0, 0, 1, 0), *ends), (told("1/2", 0, 1, 0, "1/4"), told(0, 0, 0, 0, 0)), 0),
            (0, lot(4, (0, 0, 0, -1, -1), (0, 0, 0, 1, 2), *ends),
             (told("1/2", 0, 1, "1/3", "1/4"), told(0, 0, 0, 1, 0)), 0),
            (0, lot(4, (0, 0, 0, -1, -3), *ends), (told("1/2", 0, 1, 0, "5/4"), told(0, 0, 0, 0, 3)), 0)))

    def test_what_is_told_of_the_reading(self):
        # The reading less 3 X up to 2 / 3, then from - 1 / 2 on: up to 1 / 2 by the row times - 1.
        guard = self.assert_chart(driven())[3][4][1]
        self.assertEqual(guard[1][-2:], lot(4, (-3, 0, 0, 1, "2/3"), (3, 0, 0, -1, "1/2"))[1])

    def test_what_waits_is_heard(self):
        # Numbers X, two that wait, U; NOISE, the reading.
        loop = driven(delay=2, drive=(0, 0, 0, 0, 0))
        cases = self.assert_chart(loop)[3]
        self.assertEqual(cases[0][1][1][0], lot(6, (0, 1, 0, 0, 0, 0, -1))[1][0])
        self.assertEqual(cases[-1][2], (told("1/2", 0, 0, 0, 1, 0, "1/4"), told(0, 0, 1, 0, 0, 0, 0),
                                        told(0, 0, 0, 0, 0, 1, 0), told(0, 0, 0, 0, 0, 0, 0)))

    def test_parts_of_the_clamp(self):
        # Of 4 wishes there are 4 cases to "spoilt"; then the parts in which some whole number lies.
        for drive, parts in (((2, 2, 2, 0, 0), 1), ((2, 3, 2, 0, 0), 2), ((2, 4, 2, 0, 0), 3), ((-9, 9, 0, 0, 0), 3)):
            for block in ((("out", "level"),), (("out", 4),), (("out", -5),)):
                cases = self.assert_chart(driven(drive=drive, block=block))[3]
                self.assertEqual(len(cases), 4 + parts)
                self.assertEqual([len(case[1][1]) for case in cases[4:]], {1: [4], 2: [5, 5], 3: [5, 6, 5]}[parts])
        one = self.assert_chart(driven(drive=(2, 2, 2, 0, 0)))[3][-1]
        self.assertEqual(one[2], (told("1/2", 0, 1, 0, "11/12"), told(0, 0, 0, 0, 2)))

    def test_held_drives(self):
        cases = self.assert_chart(driven(drive=(0, 3, 1, 2, 0), modes=2))[3]
        # From the places of held 0 and 1: 4 to "spoilt", 2 modes times 3 parts, 2 modes held; none held from that of 2.
        self.assertEqual([case[0] for case in cases], [0] * 12 + [1] * 12 + [2] * 10)
        self.assertEqual([case[3] for case in cases], ([3] * 4 + [0] * 6 + [1] * 2) + ([3] * 4 + [0] * 6 + [2] * 2)
                         + ([3] * 4 + [0] * 6))
        self.assertEqual(cases[10][2], (told("1/2", "1/3", 1, 0, "1/4"), told(0, 1, 0, 0, 0)))
        self.assertEqual(cases[11][2], (told(2, -1, 1, 0, 0), told(0, 1, 0, 0, 0)))
        self.assertEqual(len(cases[10][1][1]), 4)

    def test_cut_power(self):
        keeps = (("k", -3, 3, -2, 0), ("m", -3, 3, 1, 1))
        cases = self.assert_chart(driven(delay=1, drive=(0, 3, 1, 1, 1), modes=2, keeps=keeps))[3]
        # "off" is as phase 0, without the cases for held 1; behind all branches there are those to "off".
        self.assertEqual([case[0] for case in cases], [0] * 14 + [1] * 12 + [2] * 12)
        self.assertEqual([case[3] for case in cases[-12:]], [3] * 4 + [0] * 6 + [2] * 2)
        # Numbers X, one that waits, U, k, m; NOISE, the reading.
        for at in (12, 24, 36):
            self.assertEqual(cases[at][1], lot(7, (0, 0, 0, 0, 0, 1, 0, "1/5"), (0, 0, 0, 0, 0, -1, 0, "1/8")))
            self.assertEqual(cases[at][2], (told("1/2", 0, 0, 0, 0, 1, 0, "7/12"), told(*[0] * 7, 7),
                                            told(*[0] * 7, 1), told(*[0] * 7, -2), told(0, 0, 0, 0, 1, 0, 0, 0)))
            self.assertEqual(cases[at + 1][2][0], told(2, 0, 0, 0, 0, 1, 0, -1))

    def test_forms_without_factors(self):
        # Both ways of a comparison of words stand, and the wish of a command that is a word.
        block = (("if", ("above", 3, 4), (("out", 1),), (("out", 2),)),)
        cases = self.assert_chart(driven(block=block))[3]
        self.assertEqual(len(cases), 14)
        self.assertEqual([case[1][1][0] for case in cases[::7]], list(lot(4, (0, 0, 0, 0, -2), (0, 0, 0, 0, 1))[1]))
        # 1 less - 5 up to - 1; 1 up to 0, from 1 up to 2, from 3 on.
        self.assertEqual(cases[2][1][1][1], lot(4, (0, 0, 0, 0, -7))[1][0])
        self.assertEqual(cases[4][1][1][1:2], lot(4, (0, 0, 0, 0, -1))[1])
        self.assertEqual(cases[5][1][1][1:3], lot(4, (0, 0, 0, 0, 0), (0, 0, 0, 0, 1))[1])
        self.assertEqual(cases[6][1][1][1:2], lot(4, (0, 0, 0, 0, -2))[1])

    def test_phases_and_keeps(self):
        keeps = (("m", 0, 9, 4, 1),)
        block = (("out", ("less", "level", "m")), ("set", "m", ("clamp", "level", 2, 7)), ("go", "b"))
        cases = self.assert_chart(driven(keeps=keeps, block=block, phases=2))[3]
        # Three branches with 2 wishes of the reading, the word, the command and the keep each.
        self.assertEqual([case[0] for case in cases], [0] * 33 + [1] * 33)
        self.assertEqual([case[3] for case in cases], ([2] * 8 + [1] * 3) * 6)
        # Numbers X, U, m; NOISE, the reading: level less m is the command, level the keep.
        self.assertEqual(cases[31][2], (told("1/2", 0, "-1/3", 1, "1/3", "1/4"), told(0, 0, -1, 0, 1, 0),
                                        told(0, 0, 0, 0, 1, 0)))

    def test_the_tank_of_the_controllers(self):
        chart = self.assert_chart((TANK_PLANT, TANK))
        self.assertEqual((chart[0], chart[1], len(chart[3]), len(chart[4])), (3, 2, 7 + 11 * 2 + 7 * 2, 3))

    def test_many(self):
        for loop in made_loops(random.Random(2501), 40, lambda loop: too_many_by_hand(loop) is None):
            self.assert_chart(loop)
            self.assertEqual(places_of(loop), tuple(places_by_hand(loop)))


class TooManyOfThem(HelmCase):
    def assert_too_many(self, number, loop):
        """All functions tell it, behind all else that is wrong."""
        self.assertEqual(too_many_by_hand(loop), number)
        self.assertIs(is_loop(loop), True)
        standing = begun_by_hand(loop, tuple(low for low, _ in loop[0][2]))
        comes = some_comes(random.Random(number), loop, standing)
        for call, given in ((places_of, ()), (chart_of, ()), (numbers_of, (standing,)),
                            (numbers_that_come, (standing, comes)), (cases_for, (standing, comes))):
            self.fails_given_equal(number, call, loop, *given)
        for call, given in ((numbers_of, ()), (numbers_that_come, (comes,)), (cases_for, (comes,))):
            self.fails_given(InvalidStanding, None, call, loop, None, *given)
        for call in (numbers_that_come, cases_for):
            self.fails_given(InvalidComes, None, call, loop, standing, None)

    def fails_given_equal(self, number, call, *args):
        with self.assertRaises(TooMany) as caught:
            call(*args)
        self.assertEqual((type(caught.exception.given), caught.exception.given), (int, number))

    def assert_within(self, loop):
        self.assertIsNone(too_many_by_hand(loop))
        self.assertEqual(chart_of(loop), chart_by_hand(loop))

    def test_places(self):
        small = (("out", 1),)
        for holds, cuts, phases in ((2, 0, 4), (3, 1, 3), (3, 0, 4), (3, 1, 4), (2, 1, 4)):
            loop = driven(drive=(1, 1, 1, holds, cuts), block=small, phases=phases)
            self.assert_too_many(phases * (holds + 1) + cuts + 1, loop)
        self.assert_within(driven(drive=(1, 1, 1, 1, 1), block=small, phases=4))
        self.assert_within(driven(drive=(1, 1, 1, 2, 1), block=small, phases=3))

    def wide(self, size, sensors, delay, keeps):
        none = row(*[0] * size)
        plant = ((((none,) * size, none, none),), (span(0, 0),) * size, (span(0, 0),) * size,
                 ((none, pair(0), pair(1), 0),) * sensors, delay, (0, 0, 0, 0, 0), ((none, pair(0)),))
        return plant, (8, tuple((name, 0, 9) for name in "ab"[:sensors]),
                       tuple((name, 0, 9, 0, 0) for name in "klm"[:keeps]), (0, 9), (("p", (("out", 0),)),))

    def test_numbers(self):
        for size, sensors, delay, keeps in ((3, 2, 2, 1), (2, 2, 2, 2), (3, 2, 2, 3), (3, 2, 2, 2)):
            self.assert_too_many(size + sensors * delay + 1 + keeps, self.wide(size, sensors, delay, keeps))
        for size, sensors, delay, keeps in ((2, 2, 2, 1), (3, 1, 2, 2), (1, 1, 2, 3), (3, 2, 0, 3)):
            self.assert_within(self.wide(size, sensors, delay, keeps))

    def test_numbers_and_those_that_come(self):
        for size, sensors, delay, keeps in ((3, 2, 2, 0), (3, 2, 1, 2), (2, 2, 2, 2)):
            both = 2 * size + sensors * (delay + 1) + 1 + keeps
            number = size + sensors * delay + 1 + keeps
            self.assert_too_many(number if number > 8 else both, self.wide(size, sensors, delay, keeps))
        self.assert_within(self.wide(3, 2, 1, 1))

    def test_cases(self):
        # Each number set to k is 2 cases to "spoilt"; its clamp parts a branch in three.
        sets = tuple(("set", "k", 1) for _ in range(11))
        keeps = (("k", 0, 9, 0, 0),)
        # Per phase 2 + 22 + 2 wishes and 3 parts.
        many = driven(block=(("out", 1),) + sets, keeps=keeps, phases=4)
        self.assert_within(many)
        self.assertEqual(len(chart_of(many)[3]), 29 * 4)
        modes = driven(block=(("out", 1),) + sets, keeps=keeps, phases=4, modes=2)
        self.assert_too_many(32 * 4, modes)
        block = (("set", "k", ("clamp", "level", 0, 5)), ("set", "k", ("clamp", "level", 0, 5)), ("out", 1))
        self.assert_too_many(9 * (8 + 3) * 2, driven(block=block, keeps=keeps, phases=2))
        self.assert_within(driven(block=block, keeps=keeps))

    def test_the_first_of_these_numbers(self):
        sets = tuple(("set", "k", 1) for _ in range(11))
        loop = driven(drive=(1, 1, 1, 3, 1), block=(("out", 1),) + sets, keeps=(("k", 0, 9, 0, 0),), phases=4)
        self.assert_too_many(18, loop)
        self.assert_too_many(9, CART_LOOP)
        late = (with_part(CART_PLANT, DELAY, 1), CART_LOOP[1])
        self.assert_too_many(too_many_by_hand(late), late)
        self.assertGreater(too_many_by_hand(late), 120)

    def test_just_120_cases(self):
        # Of 4 phases: 2 + 2 w + 3 m cases each, w numbers told in all and m modes; and cuts.
        block = (("out", 1),) * 11
        loop = driven(block=block, phases=4, drive=(1, 1, 1, 0, 0), modes=2)
        self.assertEqual(len(chart_of(loop)[3]), 4 * (2 + 22 + 2))
        block = (("out", 1),) * 12
        loop = driven(block=block, phases=4, drive=(1, 2, 1, 0, 0), modes=2)
        self.assertEqual(len(chart_of(loop)[3]), 120)
        self.assert_within(loop)
        # Three branches of one phase, with 53 commands in all between them and 3 parts of the clamp each.
        for last, many in ((4, 121), (3, 119)):
            block = (("out", 1),) * 11 + (("if", ("above", "level", 3), (("out", 1),) * 12, (
                ("if", ("above", "level", 2), (("out", 1),) * 4, (("out", 1),) * last),)),)
            if many > 120:
                self.assert_too_many(many, driven(block=block))
            else:
                self.assert_within(driven(block=block))
        block = (("out", 1),) * 12
        loop = driven(block=block, phases=3, drive=(1, 2, 1, 0, 1), modes=2)
        self.assert_too_many(3 * 30 + 30 + 4 * 2, loop)
        for loop in made_loops(random.Random(2502), 25, lambda loop: too_many_by_hand(loop) is not None):
            self.assert_too_many(too_many_by_hand(loop), loop)


class CasesOfSteps(HelmCase):
    def assert_told(self, loop, standing, comes, chart=None, kinds=None):
        """The cases told for the step lead where it leads; what kind of them it is."""
        chart, then = chart or chart_of(loop), step_of_loop(loop, standing, comes)
        places, kinds = places_by_hand(loop), kinds or [kind for _, kind in cases_by_hand(loop)]
        place = ("off",) if standing[0] == 0 else (standing[5][0], standing[1], 1)
        numbers, coming = numbers_of(loop, standing), numbers_that_come(loop, standing, comes)
        self.assertEqual((numbers, coming), (numbers_by_hand(standing), coming_by_hand(loop, comes)))
        told_cases = cases_for(loop, standing, comes)
        self.assertEqual(list(told_cases), sorted(set(told_cases)))
        want = ("cut", comes[0]) if comes[4] else "spoilt" if len(then) == 2 else (comes[0], comes[3])
        self.assertEqual(told_cases, tuple(
            index for index, case in enumerate(chart[3])
            if kinds[index] == want and case[0] == places.index(place) and lies(case[1], numbers + coming)))
        self.assertEqual(len(told_cases) if want != "spoilt" else min(len(told_cases), 1), 1)
        if want == "spoilt":
            end = (len(places) - 1, numbers)
        else:
            end = (places.index(("off",) if comes[4] else (then[5][0], then[1], 1)), numbers_by_hand(then))
        for index in told_cases:
            self.assertEqual(step(chart, (places.index(place), numbers), index, coming), end)
        return want if want == "spoilt" else ("cut" if comes[4] else "held" if comes[3] else "taken")

    def test_runs(self):
        source, told_kinds = random.Random(2601), {}
        for loop in made_loops(source, 80, lambda loop: too_many_by_hand(loop) is None):
            chart, kinds = chart_of(loop), [kind for _, kind in cases_by_hand(loop)]
            for _ in range(2):
                state = some_start(source, loop)
                rows = some_rows(source, loop, state, 6)
                for standing, comes in zip(standings_by_hand(loop, state, rows), rows):
                    kind = self.assert_told(loop, standing, comes, chart, kinds)
                    told_kinds[kind] = told_kinds.get(kind, 0) + 1
        self.assertEqual(sorted(told_kinds), ["cut", "held", "spoilt", "taken"])
        self.assertTrue(min(told_kinds.values()) > 15, told_kinds)

    def test_one_case_for_each_wish_that_is_not_met(self):
        # The reading 10 is above 9, above OUT's 6 as the command, and no number for k.
        loop = driven(keeps=(("k", 0, 5, 0, 0),), block=(("out", "level"), ("set", "k", "level")), drive=(0, 3, 1, 1, 1))
        standing = (1, 0, row("10/3"), (), 1, (0, (0,)))
        for held in (0, 1):
            self.assertEqual(cases_for(loop, standing, (0, row(0), (10,), held, 0)), (1, 3, 5))
            self.assertEqual(self.assert_told(loop, standing, (0, row(0), (10,), held, 0)), "spoilt")
        # From the second place and from "off" on: 6 to "spoilt", 3 parts, 1 held, and 1 cut.
        self.assertEqual(cases_for(loop, with_part(standing, 1, 1), (0, row(0), (10,), 0, 0)), (12, 14, 16))
        self.assertEqual(cases_for(loop, with_part(standing, 0, 0), (0, row(0), (10,), 0, 0)), (22, 24, 26))
        self.assertEqual(cases_for(comes=(0, row(0), (), 0, 1), standing=standing, loop=loop), (10,))
        self.assertEqual(cases_for(loop, with_part(standing, 0, 0), (0, row(0), (), 0, 1)), (30,))

    def test_both_ends_of_the_clamp(self):
        loop = driven(drive=(0, 3, 1, 1, 0), low=-9)
        for reading, case in ((-1, 4), (0, 4), (1, 5), (2, 5), (3, 6), (5, 6)):
            standing = (1, 0, row(Fraction(reading, 3)), (), 1, (0, ()))
            self.assertEqual(cases_for(loop, standing, (0, row(0), (reading,), 0, 0)), (case,))
            self.assertEqual(cases_for(loop, standing, (0, row(0), (reading,), 1, 0)), (7,))
            self.assertEqual(self.assert_told(loop, standing, (0, row(0), (reading,), 0, 0)), "taken")


if __name__ == "__main__":
    unittest.main()
