"""The certificates: claims that are so, with papers that the checker accepts, and nothing that excludes them."""

import random
import unittest

from chance import some_chart, some_directions
from helms import RISING, TANK, made_controllers, some_readings, some_state, step_by_hand
from judging import accepted_by_hand
from rigs import (CART_LOOP, TANK_LOOP, TANK_PLANT, is_safe_standing_by_hand, limit, made_loops, some_rows,
                  some_start, standings_by_hand, too_many_by_hand, with_part)
from safehelms.breaks import breaking_row
from safehelms.cases import chart_of
from safehelms.certificates import (certify_bound, certify_chart, certify_does, certify_loop, certify_run,
                                    certify_step, certify_void)
from safehelms.checker import accepts
from safehelms.compiled import program_of
from safehelms.controllers import is_controller
from safehelms.errors import (InvalidChart, InvalidController, InvalidDirections, InvalidFraction, InvalidLoop,
                              InvalidLot, InvalidNumber, InvalidReadings, InvalidRow, InvalidRows, InvalidState,
                              TooMany)
from safehelms.lots import bounds, box_of, point_of
from safehelms.search import settled
from sums import NO_FRACTIONS, ODD, HelmCase, lot, pair, random_lot, row

NIL, ONE = pair(0), pair(1)
LINE = box_of(((NIL, ONE),))
ADDING = (1, 0, ((0, LINE),), ((0, (1, ()), ((row(1), ONE),), 0),), (lot(1, (1, 3)),))
# It grows up to 2 and no further.
STOPPING = (1, 0, ((0, LINE),), ((0, lot(1, (1, 1)), ((row(1), ONE),), 0),), (lot(1, (1, 3)),))
UP, STAY = (0, row("1/4"), (5,), 0, 0), (0, row(0), (5,), 0, 0)
LOW_LOOP = (with_part(TANK_PLANT, 6, (limit(1, "21/4"),)), TANK_LOOP[1])
TANK_DIRECTIONS = (row(1, 0), row(-1, 0))


class CertificateCase(HelmCase):
    def assert_certified(self, told, *claim):
        """A pair of just this claim, its parts as they were passed, and a paper that is accepted."""
        self.assertEqual((type(told), len(told)), (tuple, 2))
        self.assertEqual(told[0], claim)
        self.assertIs(accepts(*told), True)
        self.assertIs(accepted_by_hand(*told), True)


class Bounds(CertificateCase):
    def test_as_told(self):
        self.assertEqual(certify_bound(LINE, row(1), ONE), (("in", LINE, row(1), ONE), ("bound", (ONE, NIL))))
        self.assert_certified(certify_bound(LINE, row(1), NIL), "not in", LINE, row(1), NIL)
        self.assert_certified(certify_bound(bound=pair("9/10"), row=row(1), lot=LINE), "not in", LINE, row(1), pair("9/10"))
        void = lot(1, (1, 0), (-1, -1))
        self.assert_certified(certify_bound(void, row(1), pair(-5)), "in", void, row(1), pair(-5))
        # As great as one likes, from both sides of the bound.
        for one_lot, wish in (((2, ()), row(0, "1/3")), (lot(2, (-1, 0, -7)), row(1, 1)), (lot(2, (1, -1, 0)), row("1/9", 0))):
            for limit_ in (-(10 ** 50), -1, 0, 5, 10 ** 50):
                self.assert_certified(certify_bound(one_lot, wish, pair(limit_)), "not in", one_lot, wish, pair(limit_))

    def test_random_lots(self):
        source, told = random.Random(2721), {"in": 0, "not in": 0}
        for _ in range(250):
            size = source.randint(1, 4)
            one_lot = random_lot(source, size, source.randint(0, 7), 3, 3)
            wish, limit_ = row(*[source.randint(-3, 3) for _ in range(size)]), pair(source.randint(-3, 6))
            kind = "in" if bounds(one_lot, wish, limit_) else "not in"
            self.assert_certified(certify_bound(one_lot, wish, limit_), kind, one_lot, wish, limit_)
            told[kind] += 1
        self.assertTrue(min(told.values()) > 40)

    def test_void(self):
        self.assert_certified(certify_void(LINE), "some", LINE)
        self.assert_certified(certify_void(lot=lot(1, (1, 0), (-1, -1))), "void", lot(1, (1, 0), (-1, -1)))
        self.assert_certified(certify_void((12, ())), "some", (12, ()))
        source, told = random.Random(2722), {"void": 0, "some": 0}
        for _ in range(250):
            one_lot = random_lot(source, source.randint(1, 4), source.randint(0, 9), 3, 3)
            kind = "void" if point_of(one_lot) is None else "some"
            self.assert_certified(certify_void(one_lot), kind, one_lot)
            told[kind] += 1
        self.assertTrue(min(told.values()) > 40)

    def test_errors(self):
        for value in ODD + [(1, ()) + (0,)]:
            self.fails_given(InvalidLot, value, certify_void, value)
            self.fails_given(InvalidLot, value, certify_bound, value, value, value)
            self.fails_at(InvalidRow, None, certify_bound, (7, ()), value if type(value) is not tuple else (), value)
        for value in NO_FRACTIONS:
            self.fails_at(InvalidRow, 0, certify_bound, LINE, (value,), value)
            self.fails_given(InvalidFraction, value, certify_bound, LINE, row(1), value)


class Charts(CertificateCase):
    def test_as_told(self):
        self.assertIsNone(certify_chart(ADDING, (row(1),), 0, 2))
        self.assert_certified(certify_chart(ADDING, (row(1),), 0, 3), "broken", ADDING)
        self.assert_certified(certify_chart(STOPPING, (row(1),), 2, 0), "safe", STOPPING)
        self.assertIsNone(certify_chart(STOPPING, (row(1),), 0, 6))
        self.assert_certified(certify_chart(depth=3, patience=6, directions=(row(1),), chart=ADDING), "broken", ADDING)

    def test_random_charts(self):
        source, kinds = random.Random(2723), {"safe": 0, "broken": 0, None: 0}
        for _ in range(90):
            size, coming = source.randint(1, 2), source.randint(0, 1)
            chart = some_chart(source, size, coming, source.randint(1, 3), source.randint(0, 4))
            directions = some_directions(source, size, source.randint(1, 5))
            patience, depth = source.randint(0, 3), source.randint(0, 3)
            told = certify_chart(chart, directions, patience, depth)
            kind = told if told is None else told[0][0]
            kinds[kind] += 1
            if told is not None:
                self.assert_certified(told, kind, chart)
            is_safe, row_told = settled(chart, directions, patience)[0] == "safe", breaking_row(chart, depth)
            self.assertEqual(kind, "safe" if is_safe else None if row_told is None else "broken")
            self.assertFalse(is_safe and row_told is not None)
        self.assertTrue(min(kinds.values()) > 5, kinds)

    def test_errors(self):
        for value in ODD + [ADDING[:4]]:
            self.fails_given(InvalidChart, value, certify_chart, value, value, value, value)
            if type(value) is not tuple:
                self.fails_at(InvalidDirections, None, certify_chart, ADDING, value, value, value)
            self.fails_at(InvalidDirections, 1, certify_chart, ADDING, (row(1), value), value, value)
            # What is wrong is told whether the chart is settled or not.
            for chart in (ADDING, STOPPING):
                self.fails_given(InvalidNumber, value, certify_chart, chart, (row(1),), value, None)
                self.fails_given(InvalidNumber, value, certify_chart, chart, (row(1),), 6, value)
        for number in (-1, 7):
            for chart in (ADDING, STOPPING):
                self.fails_given(InvalidNumber, number, certify_chart, chart, (row(1),), number, None)
                self.fails_given(InvalidNumber, number, certify_chart, chart, (row(1),), 2, number)
        for many in (0, 25):
            self.fails_at(InvalidDirections, None, certify_chart, ADDING, (row(1),) * many, 0, 0)


class Controllers(CertificateCase):
    def test_steps(self):
        self.assertEqual(certify_step(TANK, (0, (0,)), (50,)), (("step", TANK, (0, (0,)), (50,), 5, (0, (1,))), ()))
        self.assertEqual(certify_step(readings=(64,), state=(0, ()), controller=RISING),
                         (("leaves", RISING, (0, ()), (64,), (0, 2)), ()))
        source, kinds = random.Random(2724), {"step": 0, "leaves": 0}
        for controller in made_controllers(source, 120, is_controller):
            program, layout = program_of(controller)
            for _ in range(2):
                state, readings = some_state(source, controller), some_readings(source, controller)
                told = step_by_hand(controller, state, readings)
                kinds[told[0]] += 1
                self.assert_certified(certify_step(controller, state, readings), told[0], controller, state, readings,
                                      *told[1:])
                self.assert_certified(certify_does(controller, state, readings), "does", controller, program, layout,
                                      state, readings)
        self.assertTrue(min(kinds.values()) > 40, kinds)

    def test_does(self):
        for state, readings in (((0, (9,)), (81,)), ((1, (3,)), (40,)), ((0, (0,)), (101,)), ((0, (0,)), (10 ** 99,))):
            told = certify_does(readings=readings, state=state, controller=TANK)
            self.assertEqual(told[1], ())
            self.assert_certified(told, "does", TANK, *program_of(TANK), state, readings)

    def test_errors(self):
        for call in (certify_step, certify_does):
            for value in ODD + [TANK[:4]]:
                self.fails_given(InvalidController, value, call, value, value, value)
                self.fails_given(InvalidState, value, call, TANK, value, value)
                if type(value) is not tuple or len(value) != 1:
                    self.fails_at(InvalidReadings, None, call, TANK, (0, (0,)), value)
                if type(value) is not int:
                    self.fails_at(InvalidReadings, 0, call, TANK, (0, (0,)), (value,))


class Loops(CertificateCase):
    def test_loops(self):
        self.assert_certified(certify_loop(TANK_LOOP, TANK_DIRECTIONS, 6), "loop safe", TANK_LOOP)
        self.assertIsNone(certify_loop(TANK_LOOP, TANK_DIRECTIONS, 1))
        self.assertIsNone(certify_loop(LOW_LOOP, TANK_DIRECTIONS, 6))
        self.assert_certified(certify_loop(patience=6, directions=TANK_DIRECTIONS, loop=TANK_LOOP), "loop safe", TANK_LOOP)

    def test_random_loops(self):
        source, kinds = random.Random(2725), {True: 0, False: 0}
        for loop in made_loops(source, 30, lambda loop: too_many_by_hand(loop) is None):
            chart = chart_of(loop)
            units = [[1 if at == k else 0 for at in range(chart[0])] for k in range(chart[0])]
            directions = tuple(row(*[sign * k for k in unit]) for unit in units for sign in (1, -1))
            told = certify_loop(loop, directions, 2)
            kinds[told is None] += 1
            self.assertEqual(told is not None, settled(chart, directions, 2)[0] == "safe")
            if told is not None:
                self.assert_certified(told, "loop safe", loop)
                for _ in range(5):
                    state = some_start(source, loop)
                    self.assertIsNone(certify_run(loop, state, some_rows(source, loop, state, 20)))

    def test_runs(self):
        self.assertIsNone(certify_run(TANK_LOOP, row(5), (UP, UP, STAY)))
        self.assertEqual(certify_run(LOW_LOOP, row(5), (UP, UP, UP)),
                         (("loop broken", LOW_LOOP), (row(5), (UP, UP))))
        self.assertEqual(certify_run(rows=(), state=row(6), loop=LOW_LOOP), (("loop broken", LOW_LOOP), (row(6), ())))
        self.assertIsNone(certify_run(LOW_LOOP, row(5), (UP,)))
        source, kinds = random.Random(2726), {True: 0, False: 0}
        for loop in made_loops(source, 150):
            state = some_start(source, loop)
            rows = some_rows(source, loop, state, 8)
            told = certify_run(loop, state, rows)
            safe = [is_safe_standing_by_hand(loop, standing) for standing in standings_by_hand(loop, state, rows)]
            kinds[told is None] += 1
            if told is None:
                self.assertTrue(all(safe))
            else:
                self.assert_certified(told, "loop broken", loop)
                self.assertEqual(told[1], (state, rows[:safe.index(False)]))
        self.assertTrue(min(kinds.values()) > 10, kinds)

    def test_errors(self):
        for value in ODD + [TANK_LOOP[:1]]:
            self.fails_given(InvalidLoop, value, certify_loop, value, value, value)
            self.fails_given(InvalidLoop, value, certify_run, value, value, value)
            if type(value) is not tuple:
                self.fails_at(InvalidDirections, None, certify_loop, TANK_LOOP, value, value)
                self.fails_at(InvalidRow, None, certify_run, TANK_LOOP, value, value)
                self.fails_at(InvalidRows, None, certify_run, TANK_LOOP, row(5), value)
            self.fails_at(InvalidDirections, 0, certify_loop, TANK_LOOP, (value,), value)
            self.fails_given(InvalidNumber, value, certify_loop, TANK_LOOP, TANK_DIRECTIONS, value)
            self.fails_at(InvalidRows, 1, certify_run, TANK_LOOP, row(5), (STAY, value))
        self.fails_at(InvalidRow, None, certify_run, TANK_LOOP, row(7), None)
        self.fails_at(InvalidRows, 60, certify_run, TANK_LOOP, row(5), (STAY,) * 61)
        # That there are too many of them is told ahead of all directions.
        with self.assertRaises(TooMany) as caught:
            certify_loop(CART_LOOP, None, None)
        self.assertEqual(caught.exception.given, 9)


if __name__ == "__main__":
    unittest.main()
