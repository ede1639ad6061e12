"""Point 6: papers of both kinds, right ones and such that are wrong at each place."""

import random
import unittest
from fractions import Fraction

from safehelms.errors import InvalidFraction, InvalidLot, InvalidRow
from safehelms.lots import is_paper, paper_of
from sums import NO_FRACTIONS, ODD, HelmCase, lot, many_wishes, num, pair, random_lot, row, weighed

ONE, NIL, TWO, LESS, THREE = (1, 1), (0, 1), (2, 1), (-1, 1), (3, 1)
SQUARE = lot(2, (1, 0, 1), (-1, 0, 0), (0, 1, 1), (0, -1, 0))
VOID = lot(2, (1, 0, 0), (-1, 0, -1), (0, 1, 5))
BIG = 10 ** 120


class Right(HelmCase):
    def test_bound(self):
        for bound in (2, 3, Fraction(2 * BIG + 1, BIG)):
            self.assertIs(is_paper(SQUARE, row(1, 1), pair(bound), ("bound", row(1, 0, 1, 0))), True)
        self.assertTrue(is_paper(SQUARE, row(1, 1), pair(5), ("bound", row(3, 2, 2, 1))))
        self.assertTrue(is_paper(SQUARE, row(Fraction(1, 3), Fraction(-2, 7)), pair(Fraction(1, 3)),
                                 ("bound", row(Fraction(1, 3), 0, 0, Fraction(2, 7)))))
        self.assertTrue(is_paper(paper=("bound", row(0, 0, 0, 0)), bound=NIL, row=row(0, 0), lot=SQUARE))

    def test_bound_too_low(self):
        for bound in (1, Fraction(2 * BIG - 1, BIG), -2):
            self.assertIs(is_paper(SQUARE, row(1, 1), pair(bound), ("bound", row(1, 0, 1, 0))), False)
        self.assertFalse(is_paper(SQUARE, row(0, 0), pair(Fraction(-1, BIG)), ("bound", row(0, 0, 0, 0))))

    def test_void(self):
        for wish in (row(1, 1), row(0, 0), row(-5, 7)):
            for bound in (-BIG, 0, 1):
                self.assertIs(is_paper(VOID, wish, pair(bound), ("void", row(1, 1, 0))), True)
                self.assertTrue(is_paper(VOID, wish, pair(bound), ("void", row(Fraction(1, BIG), Fraction(1, BIG), 0))))
                self.assertFalse(is_paper(VOID, wish, pair(bound), ("void", row(1, 1, 1))))
                self.assertFalse(is_paper(VOID, wish, pair(bound), ("void", row(1, 2, 0))))

    def test_bound_beside_a_void_lot(self):
        self.assertTrue(is_paper(VOID, row(0, 0), LESS, ("bound", row(1, 1, 0))))
        self.assertTrue(is_paper(VOID, row(1, 0), LESS, ("bound", row(2, 1, 0))))
        self.assertFalse(is_paper(VOID, row(1, 0), pair(-2), ("bound", row(2, 1, 0))))

    def test_void_sum_is_below_0(self):
        line = lot(1, (1, 3), (-1, -3))
        self.assertFalse(is_paper(line, row(5), NIL, ("void", row(1, 1))))
        self.assertFalse(is_paper(line, row(5), NIL, ("void", row(0, 0))))
        self.assertTrue(is_paper(lot(1, (1, 3), (-1, Fraction(-3 * BIG - 1, BIG))), row(5), NIL, ("void", row(1, 1))))
        self.assertFalse(is_paper(lot(1, (1, 3), (-1, -2)), row(5), NIL, ("void", row(1, 1))))

    def test_no_wishes(self):
        self.assertTrue(is_paper((1, ()), row(0), NIL, ("bound", ())))
        self.assertTrue(is_paper((1, ()), row(0), ONE, ("bound", ())))
        self.assertFalse(is_paper((1, ()), row(0), LESS, ("bound", ())))
        self.assertFalse(is_paper((1, ()), row(1), ONE, ("bound", ())))
        self.assertFalse(is_paper((1, ()), row(0), NIL, ("void", ())))

    def test_big_numbers(self):
        steep = lot(1, (Fraction(1, BIG), BIG))
        self.assertTrue(is_paper(steep, row(1), pair(BIG * BIG), ("bound", row(BIG))))
        self.assertFalse(is_paper(steep, row(1), pair(BIG * BIG - 1), ("bound", row(BIG))))
        self.assertFalse(is_paper(steep, row(1), pair(BIG * BIG + 1), ("bound", row(BIG + 1))))

    def test_a_hundred_wishes(self):
        hundred = lot(12, *[(*[1 if at == k % 12 else 0 for at in range(12)], k) for k in range(100)])
        weights = row(*[Fraction(1, 1 + k % 3) for k in range(100)])
        sums, bound = weighed(hundred, weights)
        self.assertTrue(is_paper(hundred, row(*sums), pair(bound), ("bound", weights)))
        self.assertFalse(is_paper(hundred, row(*sums), pair(bound - Fraction(1, 99)), ("bound", weights)))


class Bent(HelmCase):
    def test_weights_are_from_0_on(self):
        # Sums that would be right count for nothing if a weight is below 0.
        self.assertFalse(is_paper(SQUARE, row(1, 1), TWO, ("bound", row(0, -1, 1, 0))))
        self.assertFalse(is_paper(SQUARE, row(1, 1), TWO, ("bound", row(1, 0, 0, -1))))
        self.assertFalse(is_paper(lot(1, (1, 1), (1, 2)), row(7), NIL, ("void", row(1, -1))))
        self.assertFalse(is_paper(lot(1, (-1, 1)), row(1), NIL, ("bound", row(-1))))

    def test_each_weight_counts(self):
        right = row(1, 0, 1, 0)
        for at in range(4):
            for more in (Fraction(1, BIG), 1):
                bent = right[:at] + (pair(num(right[at]) + more),) + right[at + 1:]
                self.assertFalse(is_paper(SQUARE, row(1, 1), pair(9), ("bound", bent)))
            for value in NO_FRACTIONS:
                bent = right[:at] + (value,) + right[at + 1:]
                self.assertIs(is_paper(SQUARE, row(1, 1), pair(9), ("bound", bent)), False)
        for at in range(3):
            for value in NO_FRACTIONS:
                bent = row(1, 1, 0)[:at] + (value,) + row(1, 1, 0)[at + 1:]
                self.assertIs(is_paper(VOID, row(1, 1), pair(9), ("void", bent)), False)

    def test_how_many_weights(self):
        for weights in (row(1, 0, 1), row(1, 0, 1, 0, 0), (), [*row(1, 0, 1, 0)]):
            self.assertIs(is_paper(SQUARE, row(1, 1), TWO, ("bound", weights)), False)
            self.assertIs(is_paper(SQUARE, row(1, 1), TWO, ("void", weights)), False)

    def test_kinds(self):
        for kind in ODD + ["Bound", "bound ", "voi", b"bound", ("bound",), ["bound"], 0, 1]:
            if kind != "bound":
                self.assertIs(is_paper(SQUARE, row(1, 1), TWO, (kind, row(1, 0, 1, 0))), False)
            self.assertIs(is_paper(VOID, row(1, 1), TWO, (kind, row(1, 1, 0))), False)
        self.assertFalse(is_paper(SQUARE, row(1, 1), TWO, ("void", row(1, 0, 1, 0))))
        self.assertFalse(is_paper(SQUARE, row(1, 1), TWO, ("void", row(1, 1, 0, 0))))

    def test_forms(self):
        weights = row(1, 0, 1, 0)
        for value in ODD + [["bound", weights], ("bound",), ("bound", weights, ()), (weights, "bound"),
                            {"bound": weights}, (("bound", weights),)]:
            self.assertIs(is_paper(SQUARE, row(1, 1), TWO, value), False)
            self.assertIs(is_paper(SQUARE, row(1, 1), TWO, ("bound", value)), False)
            self.assertIs(is_paper(VOID, row(1, 1), TWO, ("void", value)), False)
        self.assertIs(is_paper(SQUARE, row(1, 1), TWO, weights), False)

    def test_the_row_counts_at_each_place(self):
        for wish in (row(1, 0), row(0, 1), row(1, -1), row(2, 1), row(1, Fraction(BIG + 1, BIG))):
            self.assertFalse(is_paper(SQUARE, wish, pair(9), ("bound", row(1, 0, 1, 0))))

    def test_papers_of_random_lots(self):
        source, seen = random.Random(67), {"void": 0, "bound": 0}
        for turn in range(250):
            one_lot = random_lot(source, 1 + turn % 3, source.randint(1, 8), 5, 1 + turn % 4)
            wish, bound = row(*[source.randint(-2, 2) for _ in range(one_lot[0])]), pair(source.randint(0, 9))
            paper = paper_of(one_lot, wish, bound)
            if paper is None:
                continue
            seen[paper[0]] += 1
            self.assertTrue(is_paper(one_lot, wish, bound, paper))
            kind, weights = paper
            at = source.randrange(len(weights))
            bent = (kind, weights[:at] + (pair(num(weights[at]) + 1),) + weights[at + 1:])
            sums, least = weighed(one_lot, bent[1])
            if kind == "bound":
                right = row(*sums) == wish and least <= num(bound)
            else:
                right = not any(sums) and least < 0
            self.assertIs(is_paper(one_lot, wish, bound, bent), right)
        self.assertGreater(min(seen.values()), 20)

    def test_wrong_inputs(self):
        paper = ("bound", row(1, 0, 1, 0))
        for value in ODD + [many_wishes(2, 101)]:
            self.fails_given(InvalidLot, value, is_paper, value, None, None, None)
        for value in ODD + [row(1), row(1, 1, 1)]:
            self.fails_at(InvalidRow, None, is_paper, SQUARE, value, None, paper)
        for value in NO_FRACTIONS:
            self.fails_at(InvalidRow, 1, is_paper, SQUARE, (ONE, value), None, paper)
            self.fails_given(InvalidFraction, value, is_paper, SQUARE, row(1, 1), value, paper)
            self.fails_given(InvalidFraction, value, is_paper, paper=None, bound=value, row=row(1, 1), lot=SQUARE)


if __name__ == "__main__":
    unittest.main()
