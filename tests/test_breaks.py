"""Point 11: rows that break a chart."""

import random
import unittest
from fractions import Fraction

from chance import some_chart
from safehelms.breaks import breaking_row, is_breaking
from safehelms.charts import is_chart, is_safe_standing, run_of
from safehelms.errors import InvalidChart, InvalidNumber
from safehelms.lots import box_of, greatest
from safehelms.search import settled
from safehelms.seats import greatest_at, seat_beside, seat_of
from sums import NO_FRACTIONS, ODD, HelmCase, are_lowest, lot, num, pair, random_lot, row

ONE, NIL, LESS = (1, 1), (0, 1), (-1, 1)
UNIT = lot(1, (1, 1), (-1, 0))
FREE = (1, ())
ADDING = (1, 0, ((0, UNIT),), ((0, FREE, ((row(1), ONE),), 0),), (lot(1, (1, 3)),))
HALVING = (1, 1, ((0, UNIT),), ((0, lot(2, (0, 1, 1), (0, -1, 0)), ((row(Fraction(1, 2), 1), NIL),), 0),),
           (lot(1, (1, 3)),))
STEP = (0, ())
# From place 0 to 1 with what comes added, from 1 back times - 2; place 1 alone is not always safe.
TURNING = (1, 1, ((1, lot(1, (1, -1), (-1, 1))), (0, UNIT)),
           ((0, lot(2, (0, 1, 1), (0, -1, 0)), ((row(1, 1), NIL),), 1), (1, lot(2, (1, 0, 2)), ((row(-2, 0), NIL),), 0)),
           (FREE, lot(1, (1, Fraction(5, 2)))))


def moved(factor, number):
    return ((row(factor), pair(number)),)


def with_safes(one_chart, *safes):
    return one_chart[:4] + (safes,)


def broken_by_hand(one_chart, many):
    """Whether some run of just so many steps ends unsafe: a lot of all its numbers for each way and wish."""
    size, coming, starts, cases, safes = one_chart
    width = size + coming * many

    def search(place, wishes, state, steps):
        """`state` is a list of rows of numbers of the way with a constant behind, the wishes likewise."""
        if steps == many:
            return any(beyond(place_wish, wishes, state) for place_wish in safes[place][1])
        for start, guard, moves, goal in cases:
            if start == place:
                here = state + [unit(size + coming * steps + k) for k in range(coming)]
                further = wishes + [led(wish, here, -num(bound)) for wish, bound in guard[1]]
                if greatest(lot_of(further), row(*[0] * width))[0] != "void":
                    if search(goal, further, [led(wish, here, num(more)) for wish, more in moves], steps + 1):
                        return True
        return False

    def unit(at):
        return [1 if place == at else 0 for place in range(width + 1)]

    def led(wish, here, more):
        sums = [sum(num(factor) * form[at] for factor, form in zip(wish, here)) for at in range(width + 1)]
        return sums[:-1] + [sums[-1] + more]

    def lot_of(wishes):
        return lot(width, *[(*wish[:-1], -wish[-1]) for wish in wishes])

    def beyond(place_wish, wishes, state):
        form = led(place_wish[0], state, -num(place_wish[1]))
        told = greatest(lot_of(wishes), row(*form[:-1]))
        return told[0] == "endless" or (told[0] == "greatest" and num(told[1]) + form[-1] > 0)

    units = [unit(at) for at in range(size)]
    return any(search(place, [led(wish, units, -num(bound)) for wish, bound in one_lot[1]], units, 0)
               for place, one_lot in starts)


class BreakingRow(HelmCase):
    def judge(self, one, depth):
        """The row that is told breaks the chart, within the depth; it is told on."""
        told = breaking_row(one, depth)
        if told is not None:
            self.assertEqual((type(told), len(told)), (tuple, 3))
            start, state, steps = told
            self.assertTrue(are_lowest(one[0], state))
            self.assertLessEqual(len(steps), depth)
            run = run_of(one, start, state, steps)
            self.assertIsNotNone(run)
            self.assertIs(is_safe_standing(one, run[-1]), False)
            self.assertIs(is_breaking(one, told), True)
        return told

    def test_adding(self):
        for depth in range(7):
            told = self.judge(ADDING, depth)
            self.assertEqual(told is None, depth < 3)

    def test_the_greatest_depth(self):
        for most, depth in ((Fraction(13, 2), 6), (6, 6), (7, None), (Fraction(7), None), (5, 5)):
            one = with_safes(ADDING, lot(1, (1, most)))
            for many in range(7):
                self.assertEqual(self.judge(one, many) is None, depth is None or many < depth, (most, many))

    def test_depth_0(self):
        safe = (1, 0, ((0, UNIT),), (), (UNIT,))
        self.assertIsNone(self.judge(safe, 0))
        self.assertIsNone(self.judge(safe, 6))
        for wish in ((1, Fraction(99, 100)), (-1, Fraction(-1, 100)), (0, -1), (5, 4)):
            one = with_safes(safe, lot(1, (1, 1), wish))
            self.assertEqual(self.judge(one, 0)[2], ())
            self.assertIsNotNone(self.judge(one, 6))
        # Only what lies in the second start's lot is not safe.
        two = (1, 0, ((0, lot(1, (0, -1))), (1, lot(1, (-1, -7)))), (), (lot(1, (0, -1)), lot(1, (1, 1000))))
        told = self.judge(two, 0)
        self.assertEqual(told[0], 1)

    def test_void_starts_and_guards(self):
        void = lot(1, (1, 0), (-1, -1))
        self.assertIsNone(self.judge((1, 0, ((0, void),), ((0, FREE, moved(1, 1), 0),), (lot(1, (0, -1)),)), 6))
        self.assertIsNone(self.judge((1, 0, ((0, UNIT),), ((0, lot(1, (-1, -2)), moved(1, 99), 0),), (UNIT,)), 6))
        self.assertIsNotNone(self.judge((1, 0, ((0, UNIT),), ((0, lot(1, (-1, -1)), moved(1, 99), 0),), (UNIT,)), 6))

    def test_halving(self):
        # From 1 on z is 2 - 2 ** - n at most behind n steps; it never is above 2.
        for many in range(1, 6):
            close = with_safes(HALVING, lot(1, (1, 2 - Fraction(1, 2 ** many))))
            for depth in range(7):
                self.assertEqual(self.judge(close, depth) is None, depth <= many)
        self.assertIsNone(self.judge(HALVING, 6))

    def test_without_bounds(self):
        endless = (2, 0, ((0, lot(2, (1, 1, 0))),), ((0, (2, ()), ((row(1, -1), NIL), (row(0, 1), NIL)), 0),),
                   (lot(2, (1, 0, 10 ** 60), (1, 1, 0)),))
        self.assertEqual(self.judge(endless, 0)[2], ())
        limited = with_safes(endless, lot(2, (1, 1, Fraction(1, 7))))
        self.assertIsNone(self.judge(limited, 0))
        self.assertEqual(len(self.judge(limited, 1)[2]), 1)

    def test_numbers_without_wishes(self):
        # y is bounded nowhere at first, then from below alone; it has to come below - 5.
        guard = lot(3, (1, 0, 0, 1), (-1, 0, 0, 1), (0, 0, 1, 3))
        one = (2, 1, ((0, lot(2, (1, 0, 1))),), ((0, guard, ((row(1, 0, 0), NIL), (row(0, 1, 0), NIL)), 1),
                                                (1, guard, ((row(1, 0, 0), NIL), (row(0, 1, 1), NIL)), 2)),
               ((2, ()), (2, ()), lot(2, (0, -1, 5))))
        self.assertIsNone(self.judge(one, 1))
        self.assertEqual(len(self.judge(one, 2)[2]), 2)
        limited = lot(3, (0, -1, 0, 8), (0, 0, -1, -3), (0, 0, 1, 3))
        self.assertIsNone(self.judge(one[:3] + ((one[3][0], (1, limited, *one[3][1][2:])),) + one[4:], 6))

    def test_two_places(self):
        # - 1, 2, up to 3 at place 1; from 0 up to 2 lead to up to 3 by themselves.
        for depth in range(7):
            told = self.judge(TURNING, depth)
            self.assertEqual(told is None, depth < 2)
            if told is not None:
                self.assertEqual(told[0], 0)
        self.assertIsNone(self.judge(with_safes(TURNING, FREE, lot(1, (1, 3))), 2))

    def test_many_ways(self):
        # Just one row of six cases leads to 63: z doubles and 1 or 0 is added.
        cases = tuple((place, FREE, moved(2, number), place + 1) for place in range(6) for number in (0, 1))
        safes = ((1, ()),) * 6 + (lot(1, (1, 62)),)
        one = (1, 0, ((0, lot(1, (1, 0), (-1, 0))),), cases, safes)
        told = self.judge(one, 6)
        self.assertEqual(told, (0, row(0), tuple((2 * place + 1, ()) for place in range(6))))
        self.assertIsNone(self.judge(one, 5))
        self.assertIsNone(self.judge(with_safes(one, *safes[:6], lot(1, (1, 63))), 6))

    def test_eight_numbers_and_four_that_come(self):
        size, coming = 8, 4
        guard = (12, box_of(((LESS, ONE),) * 12)[1])
        moves = tuple((row(*[Fraction(1, 2) if at in (k, size + k % coming) else 0 for at in range(12)]), NIL)
                      for k in range(size))
        one = (size, coming, ((0, box_of(((NIL, NIL),) * 8)),), ((0, guard, moves, 0),), (lot(8, (*[1] * 8, 6)),))
        # All numbers are 1 - 2 ** - n at most: 8 times that is above 6 behind 3 steps.
        self.assertIsNone(self.judge(one, 2))
        self.assertEqual(len(self.judge(one, 3)[2]), 3)

    def test_random_charts(self):
        source, kinds = random.Random(12), [0, 0]
        for turn in range(120):
            one = some_chart(source, 1 + turn % 2, turn % 3 % 2, source.randint(1, 3), source.randint(0, 4))
            self.assertTrue(is_chart(one))
            depth = source.randint(0, 3)
            told = self.judge(one, depth)
            self.assertEqual(told, breaking_row(depth=depth, chart=one))
            self.assertEqual(told is not None, any(broken_by_hand(one, many) for many in range(depth + 1)))
            kinds[told is None] += 1
            if settled(one, (row(*[1] * one[0]), row(*[-1] * one[0])), 2)[0] == "safe":
                # A chart with a table paper has no breaking row.
                self.assertIsNone(told)
        self.assertGreater(min(kinds), 20)

    def test_wrong_inputs(self):
        for value in ODD + [ADDING[:4], list(ADDING)]:
            self.fails_given(InvalidChart, value, breaking_row, value, None)
        for value in NO_FRACTIONS + [7, -1, 60]:
            if not (type(value) is int and 0 <= value <= 6):
                self.fails_given(InvalidNumber, value, breaking_row, ADDING, value)
                self.fails_given(InvalidNumber, value, breaking_row, depth=value, chart=ADDING)


class Beside(HelmCase):
    def test_seats_that_grow(self):
        # What is told of the seat of a lot that grew, its weights too, shows itself beside the whole lot.
        source, kinds = random.Random(26), {}
        for turn in range(300):
            size, coming = 1 + turn % 3, turn % 4 % 3
            one = random_lot(source, size, source.randint(0, 4), 4, 1 + turn % 3)
            seat, whole = seat_of(one), one
            for _ in range(3):
                if seat.short is None:
                    further = random_lot(source, whole[0] + coming, source.randint(0, 3), 4, 2)
                    whole = (further[0], tuple((wish + row(*[0] * coming), bound) for wish, bound in whole[1]) + further[1])
                    seat = seat_beside(seat, coming, further[1])
                    wish = row(*[source.randint(-2, 2) for _ in range(whole[0])])
                    told = greatest_at(seat, wish)
                    kind = self.assert_greatest(whole, wish, told)
                    kinds[kind] = kinds.get(kind, 0) + 1
                    self.assertEqual((kind, told[1] if kind == "greatest" else None), self.as_lots_tell(whole, wish))
        self.assertEqual(sorted(kinds), ["endless", "greatest", "void"])
        self.assertGreater(min(kinds.values()), 50)

    def as_lots_tell(self, one, wish):
        told = greatest(one, wish)
        return told[0], told[1] if told[0] == "greatest" else None


class IsBreaking(HelmCase):
    def test_how_far(self):
        for state in (0, Fraction(1, 2), 1):
            for many in range(9):
                told = is_breaking(ADDING, (0, row(state), (STEP,) * many))
                self.assertIs(told, state + many > 3)
        self.assertIs(is_breaking(row=(0, row(1), (STEP,) * 3), chart=ADDING), True)
        self.assertIs(is_breaking(ADDING, (0, row(1), (STEP,) * 200)), True)

    def test_the_start(self):
        steps = (STEP,) * 5
        self.assertIs(is_breaking(ADDING, (0, row(Fraction(101, 100)), steps)), False)
        self.assertIs(is_breaking(ADDING, (0, row(Fraction(-1, 100)), steps)), False)
        self.assertIs(is_breaking(TURNING, (1, row(-1), ((1, row(0)), (0, row(1))))), False)
        self.assertIs(is_breaking(TURNING, (0, row(-1), ((1, row(0)), (0, row(1))))), True)
        self.assertIs(is_breaking(TURNING, (0, row(-1), ((1, row(77)), (0, row(Fraction(51, 100)))))), True)
        for value in ODD + NO_FRACTIONS + [1, -1, 2]:
            if not (type(value) is int and value == 0):
                self.assertIs(is_breaking(ADDING, (value, row(1), steps)), False)
            self.assertIs(is_breaking(ADDING, (0, value, steps)), False)
            self.assertIs(is_breaking(ADDING, (0, (value,), steps)), False)
        self.assertIs(is_breaking(ADDING, (0, row(1, 1), steps)), False)

    def test_each_step(self):
        right = ((1, row(0)), (0, row(1)))
        self.assertIs(is_breaking(TURNING, (0, row(-1), right)), True)
        for wrong in (right[:1], right[1:], right[::-1], ((1, row(0)), (0, row(Fraction(3, 2)))),
                      ((1, row(0)), (1, row(0))), ((1, ()), (0, row(1))), ((1, row(0, 0)), (0, row(1))),
                      ((1, row(0)), (2, row(1))), ((1, row(0)), (-2, row(1))), list(right), ((1, row(0)), [0, row(1)]),
                      ((1, row(0)), (0, row(1), 0)), ((1, row(0)), (False, row(1))), ((True, row(0)), (0, row(1)))):
            self.assertIs(is_breaking(TURNING, (0, row(-1), wrong)), False)
        for value in ODD + NO_FRACTIONS:
            self.assertIs(is_breaking(TURNING, (0, row(-1), (right[0], value))), False)
            self.assertIs(is_breaking(TURNING, (0, row(-1), (value, right[1]))), False)
            self.assertIs(is_breaking(TURNING, (0, row(-1), (right[0], (0, value)))), False)
            self.assertIs(is_breaking(TURNING, (0, row(-1), (right[0], (0, (value,))))), False)
            if not (type(value) is int and value == 0):
                self.assertIs(is_breaking(TURNING, (0, row(-1), (right[0], (value, row(1))))), False)
            self.assertIs(is_breaking(ADDING, (0, row(1), (STEP,) * 3 + (value,))), False)

    def test_the_last_standing_counts(self):
        # 2 + 1 is above 5 / 2 at place 1; the step behind it leads to a safe one.
        one = TURNING[:3] + (TURNING[3] + ((1, (2, ()), ((row(0, 0), NIL),), 1),),) + TURNING[4:]
        right = ((1, row(0)), (0, row(1)))
        self.assertIs(is_breaking(one, (0, row(-1), right)), True)
        self.assertIs(is_breaking(one, (0, row(-1), right + ((2, row(0)),))), False)
        self.assertIs(is_breaking(one, (0, row(-1), right + ((2, row(0)), (1, row(5)), (0, row(1)),))), False)

    def test_whatever_the_row_is(self):
        right = (0, row(1), (STEP,) * 3)
        for value in ODD + NO_FRACTIONS + [right[:2], right + ((),), list(right), right[::-1], (0, row(1), STEP)]:
            self.assertIs(is_breaking(ADDING, value), False)
            self.assertIs(is_breaking(ADDING, (0, row(1), value)), False)

    def test_states_far_out(self):
        far = (1, 0, ((0, lot(1, (-1, 0))),), ADDING[3], ADDING[4])
        self.assertIs(is_breaking(far, (0, row(10 ** 300), ())), True)
        self.assertIs(is_breaking(far, (0, row(Fraction(3 * 10 ** 60 + 1, 10 ** 60)), ())), True)
        self.assertIs(is_breaking(far, (0, row(Fraction(3 * 10 ** 60 - 1, 10 ** 60)), ())), False)

    def test_wrong_charts(self):
        for value in ODD + [ADDING[:4], list(ADDING)]:
            self.fails_given(InvalidChart, value, is_breaking, value, None)
            self.fails_given(InvalidChart, value, is_breaking, row=(0, row(1), ()), chart=value)


if __name__ == "__main__":
    unittest.main()
