"""Point 8: charts and their limits, standings, steps and runs."""

import unittest
from fractions import Fraction

from safehelms.charts import is_chart, is_safe_standing, run_of, step
from safehelms.errors import InvalidChart, InvalidNumber, InvalidRow, InvalidStanding, InvalidSteps
from sums import NO_FRACTIONS, ODD, HelmCase, lot, many_wishes, pair, row

ONE, NIL = (1, 1), (0, 1)
BIG = 10 ** 120


def stay(size, coming):
    """The map that leaves all numbers as they are."""
    return tuple((row(*[1 if at == place else 0 for at in range(size + coming)]), NIL) for place in range(size))


def plain(size=1, coming=0, starts=1, cases=1, places=1):
    """A chart of so much of each kind, without wishes."""
    return (size, coming, ((0, (size, ())),) * starts, ((0, (size + coming, ()), stay(size, coming), 0),) * cases,
            ((size, ()),) * places)


def bent(value, at, part):
    """The tuple with another part at the place."""
    return value[:at] + (part,) + value[at + 1:]


# Two numbers, two that come; from place 0 to 1 while x is up to 5 and both that come are from 0 up to 1:
# x grows by the first one, y becomes x / 2 - y + the second one + 3. From 1 to 0 always, turned round.
GUARD = lot(4, (1, 0, 0, 0, 5), (0, 0, 1, 0, 1), (0, 0, -1, 0, 0), (0, 0, 0, 1, 1), (0, 0, 0, -1, 0))
MAP = ((row(1, 0, 1, 0), NIL), (row(Fraction(1, 2), -1, 0, 1), (3, 1)))
TURN = ((row(0, 1, 0, 0), NIL), (row(1, 0, 0, 0), NIL))
UNIT = lot(2, (1, 0, 1), (-1, 0, 0), (0, 1, 1), (0, -1, 0))
TWO_PLACES = (2, 2, ((0, UNIT), (1, lot(2, (1, 1, 0)))), ((0, GUARD, MAP, 1), (1, (4, ()), TURN, 0)),
              (lot(2, (1, 0, 5)), lot(2, (1, 1, 6), (0, -1, 0))))


class IsChart(HelmCase):
    def test_right_ones(self):
        self.assertIs(is_chart(TWO_PLACES), True)
        self.assertIs(is_chart(value=plain()), True)
        self.assertIs(is_chart(plain(cases=0)), True)

    def test_how_many_numbers(self):
        for size in range(0, 10):
            for coming in range(0, 8):
                right = 1 <= size <= 8 and coming <= 6 and size + coming <= 12
                for cases in (0, 1):
                    self.assertIs(is_chart(plain(size, coming, cases=cases)), right, (size, coming))
        for cases in (0, 1):
            self.assertIs(is_chart(bent(plain(cases=cases), 0, True)), False)
            for value in ODD:
                self.assertIs(is_chart(bent(plain(cases=cases), 0, value)), False)
                self.assertIs(is_chart(bent(plain(cases=cases), 1, value)), False)

    def test_how_many_places_starts_and_cases(self):
        for many, right in ((0, False), (1, True), (2, True), (11, True), (12, True), (13, False), (14, False)):
            self.assertIs(is_chart(plain(starts=many)), right)
            self.assertIs(is_chart(plain(places=many, starts=max(many, 1))), right)
            if many:
                self.assertIs(is_chart(plain(places=many)), right)
        for many, right in ((0, True), (1, True), (119, True), (120, True), (121, False)):
            self.assertIs(is_chart(plain(cases=many)), right)

    def test_how_many_wishes(self):
        for many, right in ((39, True), (40, True), (41, False), (100, False)):
            self.assertIs(is_chart(bent(plain(2, 1), 2, ((0, (2, ())), (0, many_wishes(2, many))))), right)
            case = (0, many_wishes(3, many), stay(2, 1), 0)
            self.assertIs(is_chart(bent(plain(2, 1), 3, plain(2, 1)[3] + (case,))), right)
            self.assertIs(is_chart(bent(plain(2, 1), 4, ((2, ()), many_wishes(2, many)))), right)

    def test_places_are_indexes(self):
        for place, right in [(0, True), (2, True), (3, False), (-1, False), (12, False)]:
            self.assertIs(is_chart(bent(plain(places=3), 2, ((place, (1, ())),))), right)
            self.assertIs(is_chart(bent(plain(places=3), 3, ((place, (1, ()), stay(1, 0), 0),))), right)
            self.assertIs(is_chart(bent(plain(places=3), 3, ((0, (1, ()), stay(1, 0), place),))), right)
        for value in ODD:
            self.assertIs(is_chart(bent(plain(places=3), 2, ((value, (1, ())),))), False)
            self.assertIs(is_chart(bent(plain(places=3), 3, ((value, (1, ()), stay(1, 0), 0),))), False)
            self.assertIs(is_chart(bent(plain(places=3), 3, ((0, (1, ()), stay(1, 0), value),))), False)

    def test_sizes_of_lots(self):
        for size, coming in ((1, 0), (2, 1), (1, 1), (3, 2)):
            right = plain(size, coming)
            self.assertTrue(is_chart(right))
            for other in (size - 1, size + 1, size + coming + 1, size + coming - 1):
                self.assertEqual(is_chart(bent(right, 2, ((0, (other, ())),))), other == size)
                self.assertEqual(is_chart(bent(right, 4, ((other, ()),))), other == size)
                case = (0, (other, ()), stay(size, coming), 0)
                self.assertEqual(is_chart(bent(right, 3, (case,))), other == size + coming)

    def test_maps(self):
        for moves in (stay(2, 1)[:1], stay(2, 1) + stay(2, 1)[:1], (), list(stay(2, 1)), stay(2, 0), stay(2, 2),
                      ((row(1, 0, 0), NIL), (row(1, 0), NIL)), ((row(1, 0, 0), NIL), row(1, 0, 0)),
                      ((row(1, 0, 0), NIL), [row(1, 0, 0), NIL]), ((row(1, 0, 0), NIL), (row(1, 0, 0),)),
                      ((row(1, 0, 0), NIL), (row(1, 0, 0), NIL, NIL))):
            self.assertIs(is_chart(bent(plain(2, 1), 3, ((0, (3, ()), moves, 0),))), False)
        for value in NO_FRACTIONS:
            for move in (((value, ONE, ONE), NIL), ((ONE, ONE, value), NIL), ((ONE, ONE, ONE), value), value):
                self.assertIs(is_chart(bent(plain(2, 1), 3, ((0, (3, ()), (stay(2, 1)[0], move), 0),))), False)

    def test_forms(self):
        for value in ODD + NO_FRACTIONS + [list(TWO_PLACES), TWO_PLACES[:4], TWO_PLACES + ((),)]:
            self.assertIs(is_chart(value), False)
            for at in range(2, 5):
                self.assertIs(is_chart(bent(TWO_PLACES, at, value)), at == 3 and value == ())
                self.assertIs(is_chart(bent(TWO_PLACES, at, TWO_PLACES[at] + (value,))), False)
        for value in ODD + [3, 7]:
            self.assertIs(is_chart(bent(TWO_PLACES, 0, value)), False)
            self.assertIs(is_chart(bent(TWO_PLACES, 1, value)), False)
        for at in range(2, 5):
            self.assertIs(is_chart(bent(TWO_PLACES, at, list(TWO_PLACES[at]))), False)
        start, case = TWO_PLACES[2][0], TWO_PLACES[3][0]
        for value in (list(start), start[:1], start + (0,), (UNIT, 0)):
            self.assertIs(is_chart(bent(TWO_PLACES, 2, (value,))), False)
        for value in (list(case), case[:3], case + (0,), (0, MAP, GUARD, 1)):
            self.assertIs(is_chart(bent(TWO_PLACES, 3, (value,))), False)
        for at in range(1, 3):
            for value in ODD:
                self.assertIs(is_chart(bent(TWO_PLACES, 3, (bent(case, at, value),))), False)


class Step(HelmCase):
    def test_where_it_leads(self):
        self.assertEqual(step(TWO_PLACES, (0, row(2, Fraction(1, 3))), 0, row(Fraction(1, 2), 1)),
                         (1, row(Fraction(5, 2), 1 - Fraction(1, 3) + 1 + 3)))
        self.assertEqual(step(TWO_PLACES, (1, row(2, Fraction(1, 3))), 1, row(7, 8)), (0, row(Fraction(1, 3), 2)))
        self.assertEqual(step(comes=row(1, 0), case=0, standing=(0, row(5, BIG)), chart=TWO_PLACES),
                         (1, row(6, Fraction(11, 2) - BIG)))

    def test_where_the_place_does_not_fit(self):
        self.assertIsNone(step(TWO_PLACES, (1, row(0, 0)), 0, row(0, 0)))
        self.assertIsNone(step(TWO_PLACES, (0, row(0, 0)), 1, row(0, 0)))

    def test_where_the_guard_does_not_fit(self):
        tiny = Fraction(1, BIG)
        for state, comes, fits in ((row(5, 0), row(1, 1), True), (row(5 + tiny, 0), row(1, 1), False),
                                   (row(5, 0), row(1 + tiny, 1), False), (row(5, 0), row(1, 1 + tiny), False),
                                   (row(-9, 0), row(0, 0), True), (row(0, 0), row(-tiny, 0), False),
                                   (row(0, 0), row(0, -tiny), False), (row(0, 99), row(0, 0), True)):
            self.assertIs(step(TWO_PLACES, (0, state), 0, comes) is not None, fits)

    def test_nothing_comes(self):
        adding = (1, 0, ((0, (1, ())),), ((0, lot(1, (1, 3)), ((row(1), ONE),), 0),), ((1, ()),))
        self.assertEqual(step(adding, (0, row(3)), 0, ()), (0, row(4)))
        self.assertIsNone(step(adding, (0, row(4)), 0, ()))

    def test_wrong_inputs(self):
        for value in ODD + [plain(9), plain(8, 5), plain(starts=13)]:
            self.fails_given(InvalidChart, value, step, value, None, None, None)
        for value in ODD + [(0, row(0)), (0, row(0, 0, 0)), (2, row(0, 0)), (-1, row(0, 0)), (True, row(0, 0)),
                            [0, row(0, 0)], (0, [NIL, NIL]), (0,), (0, row(0, 0), 0), (row(0, 0), 0)]:
            self.fails_given(InvalidStanding, value, step, TWO_PLACES, value, None, None)
        for value in NO_FRACTIONS:
            for standing in ((0, (value, NIL)), (0, (NIL, value)), (0, value)):
                self.fails_given(InvalidStanding, standing, step, TWO_PLACES, standing, 0, None)
        for value in ODD + [2, 120, "0", (0,), [0]]:
            self.fails_given(InvalidNumber, value, step, TWO_PLACES, (0, row(0, 0)), value, None)
        self.fails_given(InvalidNumber, 0, step, plain(cases=0), (0, row(0)), 0, ())
        self.fails_given(InvalidNumber, 1, step, plain(starts=3, places=3), (0, row(0)), 1, ())
        self.assertIsNotNone(step(plain(cases=3), (0, row(0)), 2, ()))
        for value in ODD + [row(0), row(0, 0, 0), [NIL, NIL]]:
            self.fails_at(InvalidRow, None, step, TWO_PLACES, (1, row(0, 0)), 0, value)
        for value in NO_FRACTIONS:
            self.fails_at(InvalidRow, 0, step, TWO_PLACES, (0, row(9, 9)), 0, (value, value))
            self.fails_at(InvalidRow, 1, step, comes=(NIL, value), case=0, standing=(0, row(9, 9)), chart=TWO_PLACES)
        for value in [None, row(0), []]:
            self.fails_at(InvalidRow, None, step, plain(), (0, row(0)), 0, value)


class IsSafeStanding(HelmCase):
    def test_the_lot_of_its_place(self):
        tiny = Fraction(1, BIG)
        for place, state, safe in ((0, row(5, 99), True), (0, row(5 + tiny, 0), False), (1, row(6, 0), True),
                                   (1, row(6, tiny), False), (1, row(0, -tiny), False), (1, row(5 + tiny, 0), True)):
            self.assertIs(is_safe_standing(TWO_PLACES, (place, state)), safe)
        self.assertIs(is_safe_standing(standing=(0, row(5, 0)), chart=TWO_PLACES), True)

    def test_lots_of_none_and_of_all(self):
        chart = bent(plain(places=2), 4, (lot(1, (0, -1)), (1, ())))
        self.assertIs(is_safe_standing(chart, (0, row(0))), False)
        self.assertIs(is_safe_standing(chart, (1, row(0))), True)

    def test_wrong_inputs(self):
        for value in ODD + [plain(0), plain(places=13)]:
            self.fails_given(InvalidChart, value, is_safe_standing, value, None)
        for value in ODD + [(0, row(0)), (2, row(0, 0)), (False, row(0, 0)), [0, row(0, 0)], (0, (NIL, (2, 2)))]:
            self.fails_given(InvalidStanding, value, is_safe_standing, TWO_PLACES, value)
            self.fails_given(InvalidStanding, value, is_safe_standing, standing=value, chart=TWO_PLACES)


class RunOf(HelmCase):
    def test_all_standings(self):
        self.assertEqual(run_of(TWO_PLACES, 0, row(1, 1), ()), ((0, row(1, 1)),))
        steps = ((0, row(1, 0)), (1, row(-7, 7)), (0, row(0, 1)))
        self.assertEqual(run_of(TWO_PLACES, 0, row(1, 1), steps),
                         ((0, row(1, 1)), (1, row(2, Fraction(5, 2))), (0, row(Fraction(5, 2), 2)),
                          (1, row(Fraction(5, 2), Fraction(13, 4)))))
        self.assertEqual(run_of(steps=((1, row(0, 0)),), state=row(-3, 2), start=1, chart=TWO_PLACES),
                         ((1, row(-3, 2)), (0, row(2, -3))))

    def test_each_pair_is_a_step_of_the_chart(self):
        run = run_of(TWO_PLACES, 0, row(1, 1), ((0, row(1, 0)), (1, row(-7, 7))))
        self.assertEqual(step(TWO_PLACES, run[0], 0, row(1, 0)), run[1])
        self.assertEqual(step(TWO_PLACES, run[1], 1, row(-7, 7)), run[2])

    def test_where_the_start_does_not_fit(self):
        tiny = Fraction(1, BIG)
        self.assertIsNone(run_of(TWO_PLACES, 0, row(1 + tiny, 0), ()))
        self.assertIsNone(run_of(TWO_PLACES, 0, row(0, -tiny), ((0, row(0, 0)),)))
        self.assertIsNone(run_of(TWO_PLACES, 1, row(1, 1), ()))
        self.assertIsNotNone(run_of(TWO_PLACES, 1, row(1, -1), ()))

    def test_where_a_step_does_not_fit(self):
        fits, other = (0, row(1, 0)), (1, row(0, 0))
        self.assertIsNotNone(run_of(TWO_PLACES, 0, row(0, 0), (fits, other, fits)))
        for steps in ((other,), (fits, fits), (fits, other, other), ((0, row(2, 0)),), (fits, other, (0, row(0, 2)))):
            self.assertIsNone(run_of(TWO_PLACES, 0, row(0, 0), steps))

    def test_unsafe_standings_are_let(self):
        adding = (1, 0, ((0, (1, ())),), ((0, (1, ()), ((row(1), ONE),), 0),), (lot(1, (1, 3)),))
        run = run_of(adding, 0, row(3), ((0, ()),) * 60)
        self.assertEqual(run, tuple((0, row(3 + k)) for k in range(61)))
        self.assertFalse(is_safe_standing(adding, run[1]))

    def test_wrong_inputs(self):
        for value in ODD + [plain(9)]:
            self.fails_given(InvalidChart, value, run_of, value, None, None, None)
        for value in ODD + [2, 12, (0,)]:
            self.fails_given(InvalidNumber, value, run_of, TWO_PLACES, value, None, None)
        self.fails_given(InvalidNumber, 1, run_of, plain(cases=3, places=3), 1, row(0), ())
        self.assertIsNotNone(run_of(plain(starts=3), 2, row(0), ()))
        for value in ODD + [row(0), row(0, 0, 0), [NIL, NIL]]:
            self.fails_at(InvalidRow, None, run_of, TWO_PLACES, 0, value, None)
        for value in NO_FRACTIONS:
            self.fails_at(InvalidRow, 0, run_of, TWO_PLACES, 0, (value, value), None)
            self.fails_at(InvalidRow, 1, run_of, TWO_PLACES, 0, (NIL, value), None)

    def test_wrong_steps(self):
        fits = (0, row(0, 0))
        for value in [value for value in ODD if type(value) is not tuple] + [[fits], (fits,) * 61]:
            self.fails_at(InvalidSteps, None, run_of, TWO_PLACES, 0, row(9, 9), value)
        wrong = ODD + NO_FRACTIONS + [(2, row(0, 0)), (-1, row(0, 0)), (True, row(0, 0)), (0, row(0)), (0, ()),
                                      (0, row(0, 0, 0)), [0, row(0, 0)], (0, row(0, 0), 0), (0,), (row(0, 0), 0)]
        for value in wrong + [(0, (NIL, value)) for value in NO_FRACTIONS]:
            self.fails_at(InvalidSteps, 0, run_of, TWO_PLACES, 0, row(9, 9), (value, value))
            self.fails_at(InvalidSteps, 2, run_of, TWO_PLACES, 0, row(9, 9), (fits, fits, value, fits))
        last = (fits,) * 59 + (None,)
        self.fails_at(InvalidSteps, 59, run_of, steps=last, state=row(9, 9), start=1, chart=TWO_PLACES)
        self.assertIsNone(run_of(TWO_PLACES, 0, row(9, 9), (fits,) * 60))


if __name__ == "__main__":
    unittest.main()
