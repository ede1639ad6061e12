"""Point 9: tables, their wishes, table papers, and the judge."""

import random
import unittest
from fractions import Fraction

from safehelms.charts import is_chart, is_safe_standing, run_of
from safehelms.errors import InvalidChart, InvalidTable
from safehelms.lots import bounds, box_of, paper_of
from safehelms.tables import is_table, open_wishes, table_paper, takes, wishes
from sums import NO_FRACTIONS, ODD, HelmCase, dot, lot, many_wishes, pair, row

ONE, NIL, LESS = (1, 1), (0, 1), (-1, 1)
BIG = 10 ** 120
THIRD = Fraction(1, 3)

# At place 0 z halves and what comes, from 0 up to 1, is added; at 1 it goes back by 1 / 3 and a little.
UNIT = lot(1, (1, 1), (-1, 0))
HALVE = (0, lot(2, (0, 1, 1), (0, -1, 0)), ((row(Fraction(1, 2), 1), NIL),), 0)
CROSS = (0, lot(2, (-1, 0, -1)), ((row(1, 0), pair(-THIRD)),), 1)
BACK = (1, (2, ()), ((row(1, 0), NIL),), 0)
CHART = (1, 1, ((0, UNIT), (1, lot(1, (1, 1), (-1, -1)))), (HALVE, CROSS, BACK),
         (lot(1, (1, 3)), lot(1, (1, 2), (-1, 0))))
GOOD = (lot(1, (1, 2), (-1, 0)), lot(1, (1, Fraction(5, 3)), (-1, 0)))
# Two numbers, one that comes: x and y, both turned and pushed.
PUSH = (1, lot(3, (1, 2, 3, 4)), ((row(2, 3, 5), pair(7)), (row(Fraction(1, 2), -1, 11), pair(-13))), 0)
TURNING = (2, 1, ((1, lot(2, (1, 0, 9))),), (PUSH,), (lot(2, (0, 1, 8)), (2, ())))
TURNED = (lot(2, (1, 0, 17), (Fraction(1, 3), -2, 19)), lot(2, (5, 6, 7)))


def bent(value, at, part):
    return value[:at] + (part,) + value[at + 1:]


class IsTable(HelmCase):
    def test_right_ones(self):
        self.assertIs(is_table(CHART, GOOD), True)
        self.assertIs(is_table(value=((1, ()), lot(1, (0, -1))), chart=CHART), True)
        self.assertIs(is_table(TURNING, TURNED), True)

    def test_how_many_lots(self):
        for many in range(5):
            self.assertIs(is_table(CHART, ((1, ()),) * many), many == 2)
        self.assertIs(is_table(CHART, [(1, ()), (1, ())]), False)

    def test_sizes_and_wishes(self):
        for size in range(0, 14):
            self.assertIs(is_table(TURNING, ((2, ()), (size, ()))), size == 2)
            self.assertIs(is_table(TURNING, ((size, ()), (2, ()))), size == 2)
        for many, right in ((0, True), (40, True), (41, False), (100, False)):
            self.assertIs(is_table(CHART, ((1, ()), many_wishes(1, many))), right)
            self.assertIs(is_table(CHART, (many_wishes(1, many), (1, ()))), right)

    def test_whatever_the_value_is(self):
        for value in ODD + NO_FRACTIONS:
            self.assertIs(is_table(CHART, value), False)
            self.assertIs(is_table(CHART, (GOOD[0], value)), False)
            self.assertIs(is_table(CHART, (value, GOOD[1])), False)
            self.assertIs(is_table(CHART, (GOOD[0], (1, (((value,), ONE),)))), False)

    def test_wrong_charts(self):
        for value in ODD + [CHART[:4], list(CHART)]:
            self.fails_given(InvalidChart, value, is_table, value, GOOD)


class Wishes(HelmCase):
    def test_in_order(self):
        lot_0, lot_1 = GOOD
        wide_0, wide_1 = lot(2, (1, 0, 2), (-1, 0, 0)), lot(2, (1, 0, Fraction(5, 3)), (-1, 0, 0))
        halve, cross, back = (2, wide_0[1] + HALVE[1][1]), (2, wide_0[1] + CROSS[1][1]), wide_1
        half = Fraction(1, 2)
        self.assertEqual(wishes(CHART, GOOD), (
            (UNIT, row(1), pair(2)), (UNIT, row(-1), NIL),
            (CHART[2][1][1], row(1), pair(Fraction(5, 3))), (CHART[2][1][1], row(-1), NIL),
            (halve, row(half, 1), pair(2)), (halve, row(-half, -1), NIL),
            (cross, row(1, 0), pair(Fraction(5, 3) + THIRD)), (cross, row(-1, 0), pair(-THIRD)),
            (back, row(1, 0), pair(2)), (back, row(-1, 0), NIL),
            (lot_0, row(1), pair(3)), (lot_1, row(1), pair(2)), (lot_1, row(-1), NIL)))

    def test_rows_led_back(self):
        wide = (3, lot(3, (5, 6, 0, 7))[1] + PUSH[1][1])
        third, half = THIRD, Fraction(1, 2)
        self.assertEqual(wishes(table=TURNED, chart=TURNING), (
            (TURNING[2][0][1], row(5, 6), pair(7)),
            (wide, row(2, 3, 5), pair(17 - 7)),
            (wide, row(2 * third - 2 * half, 3 * third + 2, 5 * third - 22), pair(19 - 7 * third - 26)),
            (TURNED[0], row(0, 1), pair(8))))

    def test_led_back_wishes_say_what_is_wished_behind(self):
        source = random.Random(9)
        told = wishes(TURNING, TURNED)
        for _ in range(50):
            state = row(*[Fraction(source.randint(-9, 9), source.randint(1, 4)) for _ in range(3)])
            behind = tuple(pair(dot(move, state) + Fraction(*number)) for move, number in PUSH[2])
            for at, (wish, bound) in enumerate(TURNED[0][1]):
                self.assertEqual(dot(told[1 + at][1], state) - Fraction(*told[1 + at][2]),
                                 dot(wish, behind) - Fraction(*bound))

    def test_nothing_comes(self):
        adding = (1, 0, ((0, UNIT),), ((0, lot(1, (1, 7)), ((row(1), ONE),), 0),), (lot(1, (1, 3)),))
        table = (lot(1, (2, 5)),)
        self.assertEqual(wishes(adding, table), ((UNIT, row(2), pair(5)), (lot(1, (2, 5), (1, 7)), row(2), pair(3)),
                                                 (table[0], row(1), pair(3))))

    def test_without_wishes(self):
        empty = (1, 0, ((0, UNIT),), ((0, (1, ()), ((row(1), ONE),), 0),), ((1, ()),))
        self.assertEqual(wishes(empty, ((1, ()),)), ())
        self.assertEqual(open_wishes(empty, ((1, ()),)), ())
        self.assertEqual(table_paper(empty, ((1, ()),)), (((1, ()),), ()))
        self.assertTrue(takes(empty, (((1, ()),), ())))

    def test_many_wishes(self):
        chart = (2, 1, ((0, many_wishes(2, 40)),), ((0, many_wishes(3, 40), ((row(1, 0, 0), NIL),) * 2, 0),) * 3,
                 (many_wishes(2, 40),))
        told = wishes(chart, (many_wishes(2, 40),))
        self.assertEqual(len(told), 40 + 3 * 40 + 40)
        self.assertEqual(told[40], (many_wishes(3, 80), row(1, 0, 0), pair(5)))
        paper = table_paper(chart, (many_wishes(2, 40),))
        self.assertTrue(takes(chart, paper))

    def test_wrong_inputs(self):
        for call in (wishes, open_wishes, table_paper):
            for value in ODD + [CHART[:4], list(CHART)]:
                self.fails_given(InvalidChart, value, call, value, None)
            for value in ODD + [GOOD[:1], GOOD + GOOD[:1], list(GOOD), (GOOD[0], many_wishes(1, 41)), TURNED]:
                self.fails_given(InvalidTable, value, call, CHART, value)
                self.fails_given(InvalidTable, value, call, table=value, chart=CHART)


class Judge(HelmCase):
    def assert_judged(self, chart, table):
        """What is told of the table's wishes is so, wish by wish; the indexes of open ones are told on."""
        told, opened, paper = wishes(chart, table), open_wishes(chart, table), table_paper(chart, table)
        self.assertIs(type(opened), tuple)
        self.assertEqual(opened, tuple(at for at, one in enumerate(told) if not bounds(*one)))
        self.assertEqual(paper is None, opened != ())
        if paper is not None:
            self.assertEqual((type(paper), len(paper), paper[0], len(paper[1])), (tuple, 2, table, len(told)))
            self.assertIs(type(paper[1]), tuple)
            for one, shown in zip(told, paper[1]):
                self.assert_paper(*one, shown)
            self.assertIs(takes(chart, paper), True)
        return opened

    def test_met(self):
        self.assertEqual(self.assert_judged(CHART, GOOD), ())

    def test_not_met(self):
        tiny = Fraction(1, BIG)
        low, high = GOOD
        for table, opened in (((low, lot(1, (1, Fraction(5, 3) - tiny), (-1, 0))), (6,)),
                              ((low, (1, ())), (4, 5, 7, 8)),
                              (((1, ()), high), (2, 4)),
                              ((lot(1, (1, 2 - tiny), (-1, 0)), high), (4,)),
                              ((lot(1, (1, 3 + tiny), (-1, 0)), lot(1, (1, 3), (-1, 0))), (10, 11)),
                              ((low, lot(1, (0, -1))), (2, 5)),
                              ((lot(1, (0, -1)), high), (0, 6))):
            self.assertEqual(self.assert_judged(CHART, table), opened)
            self.assertEqual(open_wishes(table=table, chart=CHART), opened)
            self.assertIsNone(table_paper(table=table, chart=CHART))

    def test_open_wishes_one_by_one(self):
        adding = (1, 0, ((0, UNIT),), ((0, (1, ()), ((row(1), ONE),), 0),), (lot(1, (1, 3)),))
        for bound, opened in ((0, (0, 1)), (1, (1,)), (3, (1,)), (4, (1, 2))):
            self.assertEqual(self.assert_judged(adding, (lot(1, (1, bound)),)), opened)
        guarded = bent(adding, 3, ((0, lot(1, (1, 2)), ((row(1), ONE),), 0),))
        for bound, opened in ((0, (0, 1)), (1, (1,)), (2, (1,)), (3, ()), (4, (2,))):
            self.assertEqual(self.assert_judged(guarded, (lot(1, (1, bound)),)), opened)

    def test_void_lots_meet_all(self):
        # Nothing starts at place 1 and nothing leads there, so the lot of none keeps all that stands there.
        chart = (1, 0, ((0, UNIT),), ((1, (1, ()), ((row(9), ONE),), 0), (0, lot(1, (0, -1)), ((row(9), ONE),), 1)),
                 (lot(1, (1, 1)), lot(1, (0, -1))))
        self.assertEqual(self.assert_judged(chart, (UNIT, lot(1, (0, -1)))), ())

    def test_runs_of_a_chart_with_a_paper_are_safe(self):
        source, longest = random.Random(99), 0
        self.assertTrue(takes(CHART, table_paper(CHART, GOOD)))
        for _ in range(200):
            steps, run = (), run_of(CHART, 0, row(Fraction(source.randint(0, 9), 9)), ())
            for _ in range(12):
                further = steps + ((source.randrange(3), row(Fraction(source.randint(0, 4), 4))),)
                if run_of(CHART, 0, run[0][1], further) is not None:
                    steps, run = further, run_of(CHART, 0, run[0][1], further)
            longest = max(longest, len(run))
            for standing in run:
                self.assertTrue(is_safe_standing(CHART, standing))
        self.assertGreater(longest, 5)

    def test_random_tables(self):
        source, met = random.Random(98), 0
        for turn in range(60):
            size, coming = 1 + turn % 2, turn % 3
            factors = [row(*[Fraction(source.randint(-2, 2), 4) for _ in range(size + coming)]) for _ in range(size)]
            moves = tuple((factor, pair(source.randint(-1, 1))) for factor in factors)
            units = [[1 if at == size + k else 0 for at in range(size + coming)] for k in range(coming)]
            comes = tuple((row(*unit), ONE) for unit in units)
            comes += tuple((tuple((-a, b) for a, b in wish), ONE) for wish, _ in comes)
            guard = (size + coming, comes)
            box = box_of(((pair(-source.randint(1, 6)), pair(source.randint(1, 6))),) * size)
            starts = ((0, box_of(((pair(-1), pair(1)),) * size)),)
            chart = (size, coming, starts, ((0, guard, moves, 0),), (box_of(((pair(-5), pair(5)),) * size),))
            self.assertTrue(is_chart(chart))
            met += self.assert_judged(chart, (box,)) == ()
        self.assertGreater(met, 5)
        self.assertLess(met, 55)

    def test_big_numbers(self):
        chart = (1, 0, ((0, lot(1, (1, BIG), (-1, 0))),), ((0, (1, ()), ((row(Fraction(1, BIG)), pair(BIG - 1)),), 0),),
                 (lot(1, (1, BIG)),))
        self.assertEqual(self.assert_judged(chart, (lot(1, (1, BIG)),)), ())
        self.assertEqual(self.assert_judged(chart, (lot(1, (1, BIG + Fraction(1, BIG))),)), (2,))


class Takes(HelmCase):
    def test_papers_of_others(self):
        told = wishes(CHART, GOOD)
        papers = tuple(paper_of(*one) for one in told)
        self.assertIs(takes(CHART, (GOOD, papers)), True)
        self.assertIs(takes(paper=(GOOD, papers), chart=CHART), True)
        # By hand: z up to 1 and 0 up to 0 bring z up to 2, and z / 2 + w is half of z up to 2 and w up to 1.
        by_hand = (("bound", row(2, 1)),) + papers[1:4] + (("bound", row(Fraction(1, 2), 0, 1, 0)),) + papers[5:]
        self.assertIs(takes(CHART, (GOOD, by_hand)), True)

    def test_each_paper_counts(self):
        table, papers = table_paper(CHART, GOOD)
        for at in range(len(papers)):
            kind, weights = papers[at]
            for value in ODD + [(kind, weights + (NIL,)), (kind, weights[:-1]), ("void", weights), (kind, row(0)),
                                list(papers[at]), (kind, list(weights)), papers[at] + (0,), ("safe", weights)]:
                self.assertIs(takes(CHART, (table, bent(papers, at, value))), False)
            for place in range(len(weights)):
                for value in NO_FRACTIONS + [LESS, (BIG, 1)]:
                    crooked = (kind, bent(weights, place, value))
                    self.assertIs(takes(CHART, (table, bent(papers, at, crooked))), False)

    def test_how_many_papers(self):
        table, papers = table_paper(CHART, GOOD)
        for value in (papers[:-1], papers + papers[-1:], (), papers[1:], list(papers), papers[0]):
            self.assertIs(takes(CHART, (table, value)), False)

    def test_other_tables(self):
        table, papers = table_paper(CHART, GOOD)
        more = Fraction(1, BIG)
        for other in ((lot(1, (1, 2 - more), (-1, 0)), table[1]), (table[0], lot(1, (1, 1), (-1, 0))),
                      (table[1], table[0]), table[:1], table + table[:1], list(table), (table[0], many_wishes(1, 41))):
            self.assertIs(takes(CHART, (other, papers)), False)

    def test_other_charts(self):
        paper = table_paper(CHART, GOOD)
        self.assertIs(takes(bent(CHART, 4, (lot(1, (1, 2 - Fraction(1, BIG))), CHART[4][1])), paper), False)
        self.assertIs(takes(bent(CHART, 4, (lot(1, (1, 4)), CHART[4][1])), paper), True)
        self.assertIs(takes(bent(CHART, 3, CHART[3][1:]), paper), False)

    def test_whatever_the_paper_is(self):
        table, papers = table_paper(CHART, GOOD)
        for value in ODD + NO_FRACTIONS + [[table, papers], (table,), (table, papers, ()), (papers, table), table,
                                           papers]:
            self.assertIs(takes(CHART, value), False)
            self.assertIs(takes(CHART, (table, value)), value is papers)
            self.assertIs(takes(CHART, (value, papers)), value is table)

    def test_wrong_charts(self):
        for value in ODD + [CHART[:4], list(CHART)]:
            self.fails_given(InvalidChart, value, takes, value, None)
            self.fails_given(InvalidChart, value, takes, paper=(GOOD, ()), chart=value)


if __name__ == "__main__":
    unittest.main()
