"""Point 7: the three things of which just one is so, and lots within others."""

import random
import unittest
from fractions import Fraction

from safehelms.errors import InvalidLot, InvalidRow, UnlikeSizes
from safehelms.lots import bounds, box_of, greatest, is_paper, is_within, point_of
from sums import NO_FRACTIONS, ODD, HelmCase, lies, lot, many_wishes, num, pair, random_lot, row

SQUARE = lot(2, (1, 0, 1), (-1, 0, 0), (0, 1, 1), (0, -1, 0))
VOID = lot(2, (1, 0, 0), (-1, 0, -1))
BIG = 10 ** 120


class Greatest(HelmCase):
    def number(self, one_lot, wish):
        told = greatest(one_lot, wish)
        self.assertEqual(self.assert_greatest(one_lot, wish, told), "greatest")
        return num(told[1])

    def kind(self, one_lot, wish):
        return self.assert_greatest(one_lot, wish, greatest(one_lot, wish))

    def test_a_greatest_number(self):
        self.assertEqual(self.number(SQUARE, row(1, 2)), 3)
        self.assertEqual(self.number(SQUARE, row(-1, -2)), 0)
        self.assertEqual(self.number(SQUARE, row(Fraction(-1, 2), Fraction(1, 3))), Fraction(1, 3))
        self.assertEqual(self.number(lot(2, (1, 2, 4), (3, 1, 6), (-1, 0, 0), (0, -1, 0)), row(1, 1)), Fraction(14, 5))
        self.assertEqual(self.number(lot(1, (-2, -5), (3, 8)), row(-1)), Fraction(-5, 2))
        self.assertEqual(self.number(lot(2, (1, 1, -3)), row(2, 2)), -6)

    def test_a_point_alone(self):
        point = lot(2, (1, 0, 2), (-1, 0, -2), (0, 1, -3), (0, -1, 3))
        self.assertEqual(self.number(point, row(5, 7)), -11)
        self.assertEqual(self.number(point, row(-5, -7)), 11)

    def test_many_wishes_through_one_point(self):
        fan = lot(2, *[(k, 10 - k, 10) for k in range(1, 10)], (1, 1, 2), (2, 2, 4), (-1, 0, 0))
        self.assertEqual(self.number(fan, row(3, 4)), 7)
        peak = lot(3, *[(a, b, 1, 0) for a in (-1, 0, 1) for b in (-1, 0, 1)])
        self.assertEqual(self.number(peak, row(0, 0, 1)), 0)
        self.assertEqual(self.kind(peak, row(2, 0, 1)), "endless")

    def test_endless(self):
        self.assertEqual(self.kind(lot(1, (-1, 0)), row(1)), "endless")
        self.assertEqual(self.kind(lot(1, (-1, 7)), row(Fraction(1, BIG))), "endless")
        self.assertEqual(self.kind(lot(2, (1, 1, 1)), row(1, 2)), "endless")
        self.assertEqual(self.kind(lot(2, (1, 1, 1)), row(-1, -1)), "endless")
        self.assertEqual(self.kind(lot(3, (1, 1, 1, 0), (-1, 0, 0, 5)), row(0, 0, 1)), "endless")
        self.assertEqual(self.kind(lot(3, (1, 1, 1, 0), (-1, 0, 0, 5)), row(0, 0, -1)), "endless")
        self.assertEqual(self.kind(lot(3, (0, 0, 1, 4), (0, 0, -1, 4)), row(1, -1, 1)), "endless")

    def test_void(self):
        for wish in (row(1, 1), row(0, 0), row(-3, 0)):
            self.assertEqual(self.kind(VOID, wish), "void")
            self.assertEqual(self.kind(lot(2, (0, 0, -1)), wish), "void")
            self.assertEqual(self.kind(lot(2, (1, 5, 3), (0, 0, Fraction(-1, BIG)), (0, 1, 1)), wish), "void")

    def test_no_wishes(self):
        for size in (1, 2, 12):
            self.assertEqual(self.number((size, ()), row(*[0] * size)), 0)
            self.assertEqual(greatest((size, ()), row(*[0] * size))[3], ())
            for number in (1, -1, Fraction(-1, 3)):
                self.assertEqual(self.kind((size, ()), row(*[0] * (size - 1), number)), "endless")

    def test_wishes_of_noughts(self):
        self.assertEqual(self.kind(lot(1, (0, 0)), row(1)), "endless")
        self.assertEqual(self.number(lot(1, (0, 0), (1, 5)), row(1)), 5)
        self.assertEqual(self.number(lot(1, (0, 7)), row(0)), 0)

    def test_big_numbers(self):
        self.assertEqual(self.number(lot(1, (Fraction(1, BIG), BIG)), row(BIG)), BIG ** 3)
        high = 10 ** 40
        one_lot = lot(2, (high, 1, high), (1, high, Fraction(1, high)), (-1, 0, high), (0, -1, high))
        most = self.number(one_lot, row(1, 1))
        self.assertTrue(bounds(one_lot, row(1, 1), pair(most)))
        self.assertFalse(bounds(one_lot, row(1, 1), pair(most - Fraction(1, high ** 5))))
        self.assertEqual(self.kind(lot(1, (BIG, BIG - 1), (-BIG, -BIG)), row(1)), "void")

    def test_twelve_numbers_a_hundred_wishes(self):
        box = box_of(((pair(-1), pair(2)),) * 12)
        self.assertEqual(self.number(box, row(*range(-6, 6))), 2 * 15 + 21)
        source = random.Random(7)
        wishes = [(*[source.randint(-9, 9) for _ in range(12)], source.randint(0, 40)) for _ in range(76)]
        hundred = (12, box[1] + lot(12, *wishes)[1])
        self.assertEqual(self.kind(hundred, row(*range(-6, 6))), "greatest")

    def test_what_is_told_may_be_passed(self):
        told = greatest(SQUARE, row(1, 2))
        self.assertTrue(is_paper(SQUARE, row(1, 2), told[1], ("bound", told[3])))
        self.assertTrue(is_paper(VOID, row(1, 2), told[1], ("void", greatest(VOID, row(1, 2))[1])))

    def test_random_lots(self):
        source, seen = random.Random(77), {}
        for turn in range(500):
            size = 1 + turn % 4
            one_lot = random_lot(source, size, source.randint(0, 3 + 2 * size), 4, 1 + turn % 5)
            wish = row(*[Fraction(source.randint(-4, 4), source.randint(1, 3)) for _ in range(size)])
            told = greatest(one_lot, wish)
            kind = self.assert_greatest(one_lot, wish, told)
            seen[kind] = seen.get(kind, 0) + 1
            self.assertEqual(kind == "void", point_of(one_lot) is None)
            self.assertEqual(told, greatest(row=wish, lot=one_lot))
            if kind == "greatest":
                self.assertTrue(bounds(one_lot, wish, told[1]))
                self.assertFalse(bounds(one_lot, wish, pair(num(told[1]) - Fraction(1, 1000))))
        self.assertEqual(sorted(seen), ["endless", "greatest", "void"])
        self.assertGreater(min(seen.values()), 50)

    def test_wrong_inputs(self):
        for value in ODD + [many_wishes(2, 101)]:
            self.fails_given(InvalidLot, value, greatest, value, None)
        for value in ODD + [row(1), row(1, 1, 1), [(1, 1), (1, 1)]]:
            self.fails_at(InvalidRow, None, greatest, SQUARE, value)
        for value in NO_FRACTIONS:
            self.fails_at(InvalidRow, 0, greatest, VOID, (value, value))
            self.fails_at(InvalidRow, 1, greatest, lot=SQUARE, row=((0, 1), value))


class IsWithin(HelmCase):
    def test_both_ways_round(self):
        inner, outer = box_of(((pair(0), pair(1)),)), box_of(((pair(-1), pair(1)),))
        self.assertIs(is_within(inner, outer), True)
        self.assertIs(is_within(outer, inner), False)
        self.assertIs(is_within(lot=inner, other=inner), True)

    def test_each_wish_of_the_other_counts(self):
        tiny = Fraction(1, BIG)
        for wish in ((1, 0, 1 - tiny), (-1, 0, -tiny), (0, 1, 1 - tiny), (0, -1, -tiny), (1, 1, 2 - tiny)):
            self.assertFalse(is_within(SQUARE, lot(2, (1, 1, 2), wish)))
            self.assertFalse(is_within(SQUARE, lot(2, wish, (1, 1, 2))))
        self.assertTrue(is_within(SQUARE, lot(2, (1, 1, 2), (1, -1, 1), (-1, -1, 0), (0, 0, 0))))

    def test_alike_by_other_wishes(self):
        one, other = lot(2, (1, 0, 1), (-1, 0, 0)), lot(2, (7, 0, 7), (-2, 0, 0), (1, 0, 2))
        self.assertTrue(is_within(one, other) and is_within(other, one))

    def test_no_wishes(self):
        self.assertTrue(is_within(SQUARE, (2, ())))
        self.assertTrue(is_within((2, ()), (2, ())))
        self.assertTrue(is_within((2, ()), lot(2, (0, 0, 0))))
        self.assertFalse(is_within((2, ()), lot(2, (0, 0, -1))))
        self.assertFalse(is_within((2, ()), SQUARE))

    def test_void_lots(self):
        other = lot(2, (1, 1, 0), (-1, -1, Fraction(-1, BIG)))
        self.assertTrue(is_within(VOID, SQUARE))
        self.assertTrue(is_within(VOID, other))
        self.assertTrue(is_within(other, VOID))
        self.assertFalse(is_within(SQUARE, VOID))
        self.assertFalse(is_within((2, ()), VOID))

    def test_random_lots(self):
        source, seen = random.Random(78), {True: 0, False: 0}
        for turn in range(200):
            one = random_lot(source, 1 + turn % 2, source.randint(0, 5), 3, 2)
            other = random_lot(source, one[0], source.randint(0, 2), 3, 2)
            told = is_within(one, other)
            seen[told] += 1
            self.assertIs(told, all(bounds(one, wish, bound) for wish, bound in other[1]))
            point = point_of(one)
            if told and point is not None:
                self.assertTrue(lies(other, point))
        self.assertGreater(min(seen.values()), 20)

    def test_wrong_inputs(self):
        for value in ODD + [many_wishes(2, 101)]:
            self.fails_given(InvalidLot, value, is_within, value, None)
            self.fails_given(InvalidLot, value, is_within, SQUARE, value)
            self.fails_given(InvalidLot, value, is_within, other=value, lot=(1, ()))
        self.fails(UnlikeSizes, None, is_within, SQUARE, (1, ()))
        self.fails(UnlikeSizes, None, is_within, other=SQUARE, lot=lot(1, (0, -1)))


if __name__ == "__main__":
    unittest.main()
