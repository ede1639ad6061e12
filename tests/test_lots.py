"""Point 6: rows, lots, papers, and the functions of safehelms.lots but greatest and is_within."""

import random
import unittest
from fractions import Fraction

from safehelms.errors import InvalidFraction, InvalidLot, InvalidNumber, InvalidPairs, InvalidRow, UnlikeSizes
from safehelms.lots import both_of, bounds, box_of, is_lot, is_row, lies_in, paper_of, point_of
from sums import NO_FRACTIONS, ODD, HelmCase, are_lowest, dot, lies, lot, many_wishes, num, pair, random_lot, row

ONE, NIL, TWO, LESS = (1, 1), (0, 1), (2, 1), (-1, 1)
SQUARE = lot(2, (1, 0, 1), (-1, 0, 0), (0, 1, 1), (0, -1, 0))
BIG = 10 ** 120


class IsLot(HelmCase):
    def test_sizes(self):
        for size in range(1, 13):
            self.assertIs(is_lot((size, ())), True)
            self.assertIs(is_lot(many_wishes(size, 2)), True)
        for size in (0, -1, 13, 14, True, None, "1", (1,), [1]):
            self.assertIs(is_lot((size, ())), False)
        self.assertFalse(is_lot((13, ((row(*[0] * 13), NIL),))))

    def test_how_many_wishes(self):
        for size in (1, 12):
            for many, right in ((0, True), (1, True), (99, True), (100, True), (101, False), (150, False)):
                self.assertIs(is_lot(many_wishes(size, many)), right)

    def test_rows_of_other_sizes(self):
        for size in (1, 2, 11, 12):
            for other in (size - 1, size + 1):
                self.assertFalse(is_lot((size, ((row(*[0] * size), NIL), (row(*[0] * other), NIL)))))

    def test_each_number_is_a_fraction(self):
        for value in NO_FRACTIONS:
            self.assertIs(is_lot((2, (((ONE, value), NIL),))), False)
            self.assertIs(is_lot((2, (((value, ONE), NIL),))), False)
            self.assertIs(is_lot((2, (((ONE, NIL), value),))), False)
            self.assertIs(is_lot((2, (((ONE, NIL), ONE), ((ONE, NIL), value)))), False)

    def test_forms(self):
        for value in ODD + NO_FRACTIONS:
            self.assertIs(is_lot(value), False)
            self.assertIs(is_lot((1, (value,))), False)
            self.assertIs(is_lot((1, (((ONE,), ONE), value))), False)
            self.assertIs(is_lot((1, ((value, ONE),))), False)
            self.assertIs(is_lot((value, ())), value == 1 and value is not True)
            if value != ():
                self.assertIs(is_lot((1, value)), False)
        self.assertFalse(is_lot([1, ()]))
        self.assertFalse(is_lot((1, [])))
        self.assertFalse(is_lot((1, ([(ONE,), ONE],))))
        self.assertFalse(is_lot((1, (([ONE], ONE),))))
        self.assertFalse(is_lot((1, ((([1, 1],), ONE),))))
        self.assertFalse(is_lot((1, (((ONE,), [1, 1]),))))
        self.assertFalse(is_lot((1, (((ONE,), ONE, ONE),))))
        self.assertFalse(is_lot((1, (((ONE,),),))))
        self.assertFalse(is_lot((1,)))
        self.assertFalse(is_lot((1, (), ())))
        self.assertFalse(is_lot((1, ((ONE, ONE),))))

    def test_right_ones(self):
        self.assertIs(is_lot(SQUARE), True)
        self.assertIs(is_lot(value=lot(3, (Fraction(1, 3), Fraction(-7, 2), 0, BIG), (0, 0, 0, -1))), True)
        self.assertTrue(is_lot((1, ((((-BIG, 3),), (1, BIG)),))))


class IsRow(HelmCase):
    def test_sizes(self):
        for size in range(1, 13):
            for length in range(0, 14):
                self.assertIs(is_row(size, (ONE,) * length), size == length)

    def test_wrong_sizes(self):
        for size in [value for value in ODD + NO_FRACTIONS if value != 1 or value is True] + [0, 13, [1], (1, 1)]:
            self.fails_given(InvalidNumber, size, is_row, size, (ONE,))
            self.fails_given(InvalidNumber, size, is_row, size=size, value=None)

    def test_whatever_the_value_is(self):
        for value in ODD + NO_FRACTIONS:
            self.assertIs(is_row(3, value), False)
            self.assertIs(is_row(1, (value,)), False)
            self.assertIs(is_row(2, (ONE, value)), False)
            self.assertIs(is_row(2, (value, ONE)), False)
        self.assertIs(is_row(2, [ONE, ONE]), False)
        self.assertIs(is_row(value=(ONE, (-5, 7)), size=2), True)


class LiesIn(HelmCase):
    def test_each_wish_counts(self):
        for point, right in ((row(0, 0), True), (row(1, 1), True), (row(Fraction(1, 2), Fraction(2, 3)), True),
                             (row(Fraction(-1, 99), 0), False), (row(0, Fraction(-1, 99)), False),
                             (row(Fraction(100, 99), 0), False), (row(0, Fraction(100, 99)), False)):
            self.assertIs(lies_in(SQUARE, point), right)

    def test_no_wishes(self):
        self.assertIs(lies_in((3, ()), row(7, -7, BIG)), True)

    def test_wishes_of_noughts(self):
        self.assertIs(lies_in(lot(1, (0, 0)), row(5)), True)
        self.assertIs(lies_in(lot(1, (0, -1)), row(5)), False)

    def test_big_numbers(self):
        slope = lot(2, (Fraction(BIG, 3), Fraction(-1, BIG), 1))
        near = row(Fraction(3, BIG), 0)
        self.assertTrue(lies_in(lot=slope, point=near))
        self.assertFalse(lies_in(slope, row(Fraction(3, BIG) + Fraction(1, BIG ** 2), 0)))
        self.assertTrue(lies_in(slope, row(Fraction(3, BIG) + Fraction(1, BIG ** 2), BIG ** 2)))

    def test_twelve_numbers_a_hundred_wishes(self):
        wishes = tuple((row(*[1 if at == k % 12 else 0 for at in range(12)]), pair(k)) for k in range(100))
        self.assertTrue(lies_in((12, wishes), row(*range(12))))
        self.assertFalse(lies_in((12, wishes), row(*range(11), 12)))
        self.assertFalse(lies_in((12, wishes), row(Fraction(1, 5), *range(1, 12))))

    def test_wrong_inputs(self):
        for value in ODD + [many_wishes(2, 101), (13, ()), (0, ())]:
            self.fails_given(InvalidLot, value, lies_in, value, row(0, 0))
            self.fails_given(InvalidLot, value, lies_in, lot=value, point=None)
        for value in ODD + [row(0), row(0, 0, 0), [NIL, NIL], row()]:
            self.fails_at(InvalidRow, None, lies_in, SQUARE, value)
        for value in NO_FRACTIONS:
            self.fails_at(InvalidRow, 0, lies_in, SQUARE, (value, NIL))
            self.fails_at(InvalidRow, 1, lies_in, SQUARE, (NIL, value))
            self.fails_at(InvalidRow, 0, lies_in, SQUARE, (value, value))
        self.fails_at(InvalidRow, 11, lies_in, (12, ()), row(*range(11)) + (None,))


class PointOf(HelmCase):
    def has_point(self, one_lot):
        point = point_of(one_lot)
        self.assertTrue(are_lowest(one_lot[0], point), point)
        self.assertTrue(lies(one_lot, point), point)
        return point

    def test_void_lots(self):
        third = Fraction(1, 3)
        for one_lot in (lot(1, (1, 0), (-1, -1)), lot(1, (0, -1)), lot(2, (0, 0, -third), (1, 0, 5)),
                        lot(2, (1, 1, 1), (-1, 0, -1), (0, -1, Fraction(-1, BIG))),
                        lot(3, (1, -1, 0, 0), (0, 1, -1, 0), (-1, 0, 1, -1)),
                        lot(2, (1, 2, third), (-1, -2, -third - Fraction(1, BIG)))):
            self.assertIsNone(point_of(one_lot))

    def test_lots_with_points(self):
        self.has_point(SQUARE)
        self.has_point(lot(1, (1, -BIG)))
        self.has_point(lot(1, (-1, -BIG)))
        self.has_point(lot(2, (1, 1, 1), (-1, 0, -1), (0, -1, 0)))
        self.has_point((12, ()))
        self.has_point(lot(3, (0, 0, 0, 0)))

    def test_equal_wishes_from_both_sides(self):
        third = Fraction(1, 3)
        self.assertEqual(self.has_point(lot(1, (1, third), (-1, -third))), row(third))
        self.assertEqual(self.has_point(lot(2, (1, 1, 3), (-1, -1, -3), (1, -1, 1), (-1, 1, -1))), row(2, 1))
        self.has_point(lot(2, (3, 5, 7), (-3, -5, -7)))
        self.has_point(lot(3, (1, 1, 0, 2), (-1, -1, 0, -2), (0, 0, 1, -9)))
        self.assertIsNone(point_of(lot(2, (1, 1, 3), (-1, -1, -3), (1, 1, 2))))

    def test_twelve_numbers(self):
        low = tuple((pair(k), pair(k + Fraction(1, 7))) for k in range(12))
        box = box_of(low)
        self.has_point(box)
        close = (12, box[1] + lot(12, (*[1] * 12, 66))[1])
        self.assertEqual(self.has_point(close), row(*range(12)))
        self.assertIsNone(point_of((12, close[1] + lot(12, (*[-1] * 12, Fraction(-6600001, 100000)))[1])))

    def test_a_hundred_wishes(self):
        wishes = [(k, 100 - k, k * k + (100 - k) ** 2) for k in range(1, 50)]
        wishes += [(-k, -(100 - k), -1) for k in range(1, 51)] + [(1, 1, 100)]
        self.assertEqual(len(wishes), 100)
        self.has_point(lot(2, *wishes))

    def test_random_lots(self):
        source, kinds = random.Random(6), [0, 0]
        for turn in range(400):
            one_lot = random_lot(source, 1 + turn % 4, source.randint(0, 9), 6, 1 + turn % 5)
            point = point_of(one_lot)
            kinds[point is None] += 1
            if point is None:
                paper = paper_of(one_lot, row(*[0] * one_lot[0]), pair(-1))
                self.assert_paper(one_lot, row(*[0] * one_lot[0]), pair(-1), paper)
            else:
                self.assertTrue(are_lowest(one_lot[0], point) and lies(one_lot, point))
        self.assertGreater(min(kinds), 50)

    def test_equal_calls(self):
        one_lot = lot(2, (3, 5, 7), (-3, -5, 1))
        self.assertEqual(point_of(one_lot), point_of(lot=one_lot))

    def test_wrong_inputs(self):
        for value in ODD + [many_wishes(1, 101), [1, ()]]:
            self.fails_given(InvalidLot, value, point_of, value)


class BoxOf(HelmCase):
    def test_wishes_in_order(self):
        third = (1, 3)
        self.assertEqual(box_of(((LESS, third),)), (1, (((ONE,), third), ((LESS,), ONE))))
        self.assertEqual(box_of(pairs=((third, TWO), (NIL, NIL), ((-5, 2), (-1, 2)))),
                         lot(3, (1, 0, 0, 2), (-1, 0, 0, Fraction(-1, 3)), (0, 1, 0, 0), (0, -1, 0, 0),
                             (0, 0, 1, Fraction(-1, 2)), (0, 0, -1, Fraction(5, 2))))

    def test_one_to_twelve(self):
        for many in range(1, 13):
            box = box_of(((LESS, TWO),) * many)
            self.assertTrue(is_lot(box))
            self.assertEqual((box[0], len(box[1])), (many, 2 * many))
            self.assertTrue(lies_in(box, (TWO,) * many) and lies_in(box, (LESS,) * many))
            self.assertFalse(lies_in(box, (TWO,) * (many - 1) + ((3, 1),)))
            self.assertFalse(lies_in(box, (TWO,) * (many - 1) + ((-2, 1),)))

    def test_wrong_inputs(self):
        for value in ODD + [((NIL, ONE),) * 13, [(NIL, ONE)]]:
            self.fails_at(InvalidPairs, None if type(value) is not tuple or len(value) in (0, 13) else 0, box_of, value)
        for value in NO_FRACTIONS + [[NIL, ONE], (ONE, NIL), (NIL, ONE, ONE), (ONE,), ((1, 2), (1, 3)),
                                     ((-1, 3), (-1, 2))]:
            self.fails_at(InvalidPairs, 0, box_of, (value,))
            self.fails_at(InvalidPairs, 2, box_of, ((NIL, ONE), (NIL, NIL), value, value))
        for value in NO_FRACTIONS:
            self.fails_at(InvalidPairs, 1, box_of, ((NIL, ONE), (NIL, value)))
            self.fails_at(InvalidPairs, 1, box_of, pairs=((NIL, ONE), (value, NIL), (ONE, NIL)))


class BothOf(HelmCase):
    def test_wishes_in_order(self):
        other = lot(2, (5, 6, 7))
        self.assertEqual(both_of(SQUARE, other), (2, SQUARE[1] + other[1]))
        self.assertEqual(both_of(lot=other, other=SQUARE), (2, other[1] + SQUARE[1]))
        self.assertEqual(both_of((3, ()), (3, ())), (3, ()))

    def test_many_wishes(self):
        hundred = both_of(many_wishes(1, 60), many_wishes(1, 40))
        self.assertTrue(is_lot(hundred))
        more = both_of(many_wishes(1, 60), many_wishes(1, 41))
        self.assertEqual(more, many_wishes(1, 101))
        self.assertFalse(is_lot(more))
        self.fails_given(InvalidLot, more, point_of, more)
        self.assertEqual(len(both_of(hundred, hundred)[1]), 200)

    def test_wrong_inputs(self):
        for value in ODD:
            self.fails_given(InvalidLot, value, both_of, value, None)
            self.fails_given(InvalidLot, value, both_of, (1, ()), value)
            self.fails_given(InvalidLot, value, both_of, other=value, lot=SQUARE)
        self.fails(UnlikeSizes, None, both_of, (1, ()), (2, ()))
        self.fails(UnlikeSizes, None, both_of, lot=SQUARE, other=many_wishes(12, 3))
        wrong = (3, ((row(1), ONE),))
        self.fails_given(InvalidLot, wrong, both_of, SQUARE, wrong)


class Bounds(HelmCase):
    def judge(self, one_lot, wish, bound):
        """Whether the wish is met, paper_of telling the same with a paper that shows it."""
        met = bounds(one_lot, wish, bound)
        paper = paper_of(one_lot, wish, bound)
        self.assertIs(met, paper is not None)
        if met:
            self.assert_paper(one_lot, wish, bound, paper)
        return met

    def test_at_above_and_below_the_greatest(self):
        tiny = Fraction(1, BIG)
        slope = lot(2, (1, 2, 4), (3, 1, 6), (-1, 0, 0), (0, -1, 0))
        for one_lot, wish, most in ((SQUARE, row(1, 1), 2), (SQUARE, row(-1, -1), 0), (SQUARE, row(1, -1), 1),
                                    (SQUARE, row(0, 0), 0), (slope, row(1, 1), Fraction(14, 5)),
                                    (lot(1, (3, 1)), row(Fraction(2, 7)), Fraction(2, 21)),
                                    (lot(2, (1, 1, BIG)), row(BIG, BIG), BIG * BIG),
                                    (lot(1, (1, Fraction(1, 3)), (-1, Fraction(-1, 3))), row(-1), Fraction(-1, 3))):
            self.assertTrue(self.judge(one_lot, wish, pair(most)))
            self.assertTrue(self.judge(one_lot, wish, pair(most + tiny)))
            self.assertTrue(self.judge(one_lot, wish, pair(most + 1)))
            self.assertFalse(self.judge(one_lot, wish, pair(most - tiny)))
            self.assertFalse(self.judge(one_lot, wish, pair(most - 1)))

    def test_void_lots(self):
        for one_lot in (lot(1, (1, 0), (-1, -1)), lot(2, (0, 0, -1)), lot(2, (1, 1, 0), (-1, 0, -1), (0, -1, -1))):
            for most in (-BIG, -1, 0, Fraction(1, 3), BIG):
                for number in (-2, 0, 5):
                    self.assertTrue(self.judge(one_lot, row(*[number] * one_lot[0]), pair(most)))

    def test_endless_lots(self):
        for most in (0, 5, BIG):
            self.assertFalse(self.judge((2, ()), row(1, 0), pair(most)))
            self.assertFalse(self.judge(lot(2, (1, 1, 0)), row(1, 0), pair(most)))
            self.assertFalse(self.judge(lot(1, (-1, 0)), row(1), pair(most)))
        self.assertTrue(self.judge((2, ()), row(0, 0), NIL))
        self.assertFalse(self.judge((2, ()), row(0, 0), pair(Fraction(-1, BIG))))
        self.assertTrue(self.judge(lot(2, (1, 1, 0)), row(3, 3), NIL))

    def test_twelve_numbers_and_a_hundred_wishes(self):
        box = box_of(((LESS, TWO),) * 12)
        self.assertTrue(self.judge(box, row(*[1] * 12), pair(24)))
        self.assertFalse(self.judge(box, row(*[1] * 12), pair(Fraction(239, 10))))
        wishes = lot(2, *[(1, k, 10 + k) for k in range(1, 101)])
        self.assertTrue(self.judge(wishes, row(2, 101), pair(121)))
        self.assertFalse(self.judge(wishes, row(2, 101), pair(120)))

    def test_random_lots(self):
        source, seen = random.Random(66), {True: 0, False: 0}
        for turn in range(300):
            one_lot = random_lot(source, 1 + turn % 3, source.randint(1, 8), 5, 1 + turn % 4)
            wish = row(*[source.randint(-5, 5) for _ in range(one_lot[0])])
            point = point_of(one_lot)
            most = Fraction(0) if point is None else dot(wish, point)
            seen[self.judge(one_lot, wish, pair(most))] += 1
            if point is not None:
                self.assertFalse(bounds(one_lot, wish, pair(most - Fraction(1, 1000))))
        self.assertGreater(min(seen.values()), 30)

    def test_big_numbers(self):
        one_lot = lot(2, (Fraction(BIG, 7), Fraction(1, BIG), 1), (Fraction(-1, BIG), BIG, BIG), (-1, 0, 3), (0, -1, 3))
        wish = row(Fraction(BIG + 1, 3), Fraction(2, BIG + 3))
        self.assertFalse(self.judge(one_lot, wish, pair(0)))
        self.assertTrue(self.judge(one_lot, wish, pair(BIG)))

    def test_wrong_inputs(self):
        for call in (bounds, paper_of):
            for value in ODD + [many_wishes(2, 101)]:
                self.fails_given(InvalidLot, value, call, value, None, None)
            for value in ODD + [row(0), row(0, 0, 0), [NIL, NIL]]:
                self.fails_at(InvalidRow, None, call, SQUARE, value, None)
            for value in NO_FRACTIONS:
                self.fails_at(InvalidRow, 0, call, SQUARE, (value, value), None)
                self.fails_at(InvalidRow, 1, call, lot=SQUARE, bound=value, row=(NIL, value))
                self.fails_given(InvalidFraction, value, call, SQUARE, row(0, 0), value)
                self.fails_given(InvalidFraction, value, call, lot(1, (1, 0), (-1, -1)), row(1), bound=value)
        self.assertTrue(bounds(bound=TWO, row=row(1, 1), lot=SQUARE))
        self.assertEqual(num(paper_of(bound=TWO, row=row(1, 1), lot=SQUARE)[1][0]), 1)


if __name__ == "__main__":
    unittest.main()
