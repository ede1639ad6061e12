"""Point 23: runs, runs gone on from any of their standings, and the first standing that is not safe."""

import random
import unittest

from rigs import (CART_LOOP, TANK_LOOP, TANK_PLANT, begun_by_hand, is_safe_standing_by_hand, limit, made_loops,
                  some_comes, some_rows, some_start, standings_by_hand, step_of_loop, with_part)
from safehelms.errors import InvalidLoop, InvalidRow, InvalidRows, InvalidStanding
from safehelms.loops import begun, first_unsafe, gone_on, is_standing, run
from sums import NO_FRACTIONS, ODD, HelmCase, pair, row

START = row(5)
# The level stays at 5 for ever: the reading 5 tells the command 1.
STAY = (0, row(0), (5,), 0, 0)
# A tank whose readings leave their range below 4: then the run is spoilt.
SHY_LOOP = (with_part(TANK_PLANT, (5, 4), 1), (8, (("level", 4, 100),), (), (0, 5), (("only", (("out", 0),)),)))


def sinking(many):
    """Rows by which the shy tank sinks, from 5, by 3 / 4 a step."""
    rows, level = [], 5 * 4
    for _ in range(many):
        rows.append((0, row("-1/4"), (-((2 - level) // 4),), 0, 0))
        level -= 3
    return tuple(rows)


class Runs(HelmCase):
    def test_as_told(self):
        self.assertEqual(run(TANK_LOOP, START, ()), (begun(TANK_LOOP, START),))
        self.assertEqual(run(TANK_LOOP, START, (STAY, (0, row("1/4"), (5,), 0, 0))),
                         ((1, 0, row(5), (), 1, (0, ())), (1, 0, row(5), (), 1, (0, ())),
                          (1, 0, row("21/4"), (), 1, (0, ()))))
        self.assertEqual(run(rows=(), state=START, loop=TANK_LOOP), (begun(TANK_LOOP, START),))

    def test_a_run_that_is_spoilt(self):
        told = run(SHY_LOOP, START, sinking(3))
        self.assertEqual([standing[2] for standing in told[:3]], [row(5), row("17/4"), row("7/2")])
        # From 7 / 2 on 3 is a reading; it leaves.
        self.assertEqual(told[3], ("spoilt", ()))
        self.assertIs(is_standing(SHY_LOOP, told[3]), True)
        for many in (4, 5, 6):
            self.fails_at(InvalidRows, 3, run, SHY_LOOP, START, sinking(3) + (sinking(3)[2],) * (many - 3))

    def test_many_and_gone_on_from_each(self):
        source, ends = random.Random(2301), {2: 0, 6: 0}
        for loop in made_loops(source, 120):
            state = some_start(source, loop)
            rows = some_rows(source, loop, state, 15)
            told = run(loop, state, rows)
            self.assertEqual(told, standings_by_hand(loop, state, rows))
            self.assertIs(type(told), tuple)
            for at, standing in enumerate(told):
                if len(standing) == 6:
                    self.assertEqual(gone_on(loop, standing, rows[at:]), told[at:])
                    self.assertEqual(gone_on(loop, standing, ()), (standing,))
                else:
                    self.fails_given(InvalidStanding, standing, gone_on, loop, standing, ())
            ends[len(told[-1])] += 1
        self.assertTrue(ends[2] > 10 and ends[6] > 10)

    def test_standings_that_no_run_has(self):
        standing = (0, 0, row(99), (), 2, (0, ()))
        loop = (with_part(TANK_PLANT, (5, 4), 1), TANK_LOOP[1])
        rows = ((0, row(0), (), 0, 1), (0, row("1/4"), (99,), 0, 0))
        self.assertEqual(gone_on(rows=rows, standing=standing, loop=loop),
                         (standing, (0, 0, row(99), (), 1, (0, ())), (1, 0, row("395/4"), (), 0, (0, ()))))


class SixtySteps(HelmCase):
    def test_sixty(self):
        for many in (59, 60):
            told = run(TANK_LOOP, START, (STAY,) * many)
            self.assertEqual(told, (begun(TANK_LOOP, START),) * (many + 1))
            self.assertEqual(gone_on(TANK_LOOP, told[-1], (STAY,) * 60), told[:1] * 61)
            self.assertIsNone(first_unsafe(TANK_LOOP, START, (STAY,) * many))

    def test_more_than_sixty(self):
        wrong = (0, row(1), (5,), 0, 0)
        for more in ((STAY,), (STAY,) * 200, (wrong,), (None, STAY)):
            for call, begin in ((run, START), (first_unsafe, START), (gone_on, begun(TANK_LOOP, START))):
                self.fails_at(InvalidRows, 60, call, TANK_LOOP, begin, (STAY,) * 60 + more)
                self.fails_at(InvalidRows, 59, call, TANK_LOOP, begin, (STAY,) * 59 + (wrong,) + more)
                self.fails_at(InvalidRows, 0, call, TANK_LOOP, begin, (wrong,) * 61 + more)


class WrongRows(HelmCase):
    def test_what_is_no_tuple(self):
        for value in ODD + [[STAY], "", 5]:
            for call, begin in ((run, START), (first_unsafe, START), (gone_on, begun(TANK_LOOP, START))):
                if type(value) is not tuple:
                    self.fails_at(InvalidRows, None, call, TANK_LOOP, begin, value)
                elif value:
                    self.fails_at(InvalidRows, 0, call, TANK_LOOP, begin, value)
                    self.fails_at(InvalidRows, 2, call, TANK_LOOP, begin, (STAY, STAY) + value)

    def test_the_first_that_does_not_fit(self):
        source = random.Random(2302)
        for loop in made_loops(source, 120):
            state = some_start(source, loop)
            rows = some_rows(source, loop, state, 8)
            at = source.randrange(len(rows))
            for wrong in (None, rows[at][:4], with_part(rows[at], 0, 3), with_part(rows[at], 1, ()),
                          with_part(rows[at], 3, 2), with_part(rows[at], 4, -1)):
                for call in (run, first_unsafe):
                    self.fails_at(InvalidRows, at, call, loop, state, rows[:at] + (wrong,) + rows[at + 1:])
                self.fails_at(InvalidRows, at, gone_on, loop, begun_by_hand(loop, state),
                              rows[:at] + (wrong,) + rows[at + 1:])

    def test_what_fits_one_standing_may_not_fit_another(self):
        self.fails_at(InvalidRows, 1, run, TANK_LOOP, row(6), ((0, row("1/4"), (6,), 0, 0), STAY))
        held = (with_part(TANK_PLANT, (5, 3), 1), TANK_LOOP[1])
        self.assertEqual(len(run(held, START, (with_part(STAY, 3, 1), STAY, with_part(STAY, 3, 1)))), 4)
        self.fails_at(InvalidRows, 1, run, held, START, (with_part(STAY, 3, 1), with_part(STAY, 3, 1)))

    def test_errors_ahead(self):
        for value in ODD:
            for call in (run, gone_on, first_unsafe):
                self.fails_given(InvalidLoop, value, call, value, value, value)
            self.fails_given(InvalidStanding, value, gone_on, TANK_LOOP, value, value)
        for call in (run, first_unsafe):
            for value in NO_FRACTIONS:
                self.fails_at(InvalidRow, 0, call, TANK_LOOP, (value,), value)
            for value in (None, (), row(5, 5), [pair(5)], row(7), row("41/8", 1)):
                self.fails_at(InvalidRow, None, call, TANK_LOOP, value, None)
            self.fails_at(InvalidRow, None, call, rows=None, state=row(3), loop=TANK_LOOP)


class FirstUnsafe(HelmCase):
    def test_where(self):
        for bound, index in ((5, 1), ("21/4", 2), ("11/2", 3), ("23/4", 4), (6, None)):
            loop = (with_part(TANK_PLANT, 6, (limit(1, bound),)), TANK_LOOP[1])
            rows = tuple((0, row("1/4"), (reading,), 0, 0) for reading in (5, 5, 6, 6))
            self.assertEqual(first_unsafe(loop, START, rows), index)
            self.assertEqual(first_unsafe(loop, START, rows[:2]), index if index in (1, 2) else None)
        begins = (with_part(TANK_PLANT, 6, (limit(1, 4),)), TANK_LOOP[1])
        self.assertEqual(first_unsafe(begins, START, ()), 0)
        self.assertEqual(first_unsafe(rows=(STAY,) * 60, state=START, loop=begins), 0)
        self.assertIsNone(first_unsafe(begins, row(4), ()))

    def test_a_spoilt_standing_is_not_safe(self):
        self.assertEqual(first_unsafe(SHY_LOOP, START, sinking(3)), 3)
        self.assertIsNone(first_unsafe(SHY_LOOP, START, sinking(2)))

    def test_many(self):
        source, told = random.Random(2303), []
        for loop in made_loops(source, 200):
            state = some_start(source, loop)
            rows = some_rows(source, loop, state, 10)
            unsafe = [at for at, standing in enumerate(standings_by_hand(loop, state, rows))
                      if not is_safe_standing_by_hand(loop, standing)]
            told.append(unsafe[0] if unsafe else None)
            self.assertEqual(first_unsafe(loop, state, rows), told[-1])
        self.assertTrue(all(told.count(index) > 3 for index in (None, 0, 1, 2)))


class LongRuns(HelmCase):
    def test_the_cart_over_sixty_steps_and_on(self):
        source = random.Random(2304)
        standing, last = begun_by_hand(CART_LOOP, row(0, "1/2")), None
        for _ in range(3):
            rows = []
            last = standing
            while len(rows) < 60 and len(standing) == 6:
                rows.append(some_comes(source, CART_LOOP, standing))
                standing = step_of_loop(CART_LOOP, standing, rows[-1])
            if len(last) == 6:
                self.assertEqual(gone_on(CART_LOOP, last, tuple(rows))[-1], standing)


if __name__ == "__main__":
    unittest.main()
