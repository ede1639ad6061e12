"""The names, arguments and files of the interface, and its sessions as they stand in the document."""

import inspect
import unittest
from importlib import import_module

from safehelms.charts import is_chart, is_safe_standing, run_of, step
from safehelms.errors import (InvalidChart, InvalidFraction, InvalidLot, InvalidNumber, InvalidPairs, InvalidRow,
                              InvalidStanding, InvalidSteps, InvalidTable)
from safehelms.lots import (both_of, bounds, box_of, greatest, is_lot, is_paper, is_row, is_within, lies_in, paper_of,
                            point_of)
from safehelms.tables import is_table, open_wishes, table_paper, takes, wishes
from sums import HelmCase, lot, nested, row

INTERFACE = {
    "safehelms.lots": {
        "is_lot": ["value"], "is_row": ["size", "value"], "lies_in": ["lot", "point"], "point_of": ["lot"],
        "box_of": ["pairs"], "both_of": ["lot", "other"], "bounds": ["lot", "row", "bound"],
        "paper_of": ["lot", "row", "bound"], "is_paper": ["lot", "row", "bound", "paper"],
        "greatest": ["lot", "row"], "is_within": ["lot", "other"]},
    "safehelms.charts": {
        "is_chart": ["value"], "step": ["chart", "standing", "case", "comes"],
        "is_safe_standing": ["chart", "standing"], "run_of": ["chart", "start", "state", "steps"]},
    "safehelms.tables": {
        "is_table": ["chart", "value"], "wishes": ["chart", "table"], "open_wishes": ["chart", "table"],
        "table_paper": ["chart", "table"], "takes": ["chart", "paper"]},
}


class Names(unittest.TestCase):
    def test_each_function_stands_in_its_file_with_its_arguments(self):
        for module, functions in INTERFACE.items():
            for name, parameters in functions.items():
                function = getattr(import_module(module), name)
                self.assertTrue(inspect.isfunction(function), name)
                self.assertEqual(function.__module__, module, name)
                self.assertEqual(list(inspect.signature(function).parameters), parameters, name)


class DeepValues(HelmCase):
    """A value nested 40 deep, passed for each argument for which any value may be passed."""

    deep = nested(40)

    def test_lots(self):
        deep, line = self.deep, lot(2, (1, 1, 1))
        self.assertEqual([is_lot(deep), is_row(1, deep), is_row(2, deep)], [False] * 3)
        self.assertIs(is_paper(line, row(1, 1), (1, 1), deep), False)
        self.fails_given(InvalidNumber, deep, is_row, deep, deep)
        self.fails_at(InvalidPairs, 0, box_of, deep)
        for call, many in ((point_of, 0), (lies_in, 1), (both_of, 1), (is_within, 1), (greatest, 1), (bounds, 2),
                           (paper_of, 2), (is_paper, 3)):
            self.fails_given(InvalidLot, deep, call, deep, *[deep] * many)
        for call, many in ((lies_in, 0), (greatest, 0), (bounds, 1), (paper_of, 1), (is_paper, 2)):
            self.fails_at(InvalidRow, None, call, line, deep, *[deep] * many)
        for call, many in ((bounds, 0), (paper_of, 0), (is_paper, 1)):
            self.fails_given(InvalidFraction, deep, call, line, row(1, 1), deep, *[deep] * many)
        for call in (both_of, is_within):
            self.fails_given(InvalidLot, deep, call, line, deep)

    def test_charts_and_tables(self):
        deep, empty = self.deep, (2, ())
        chart = (2, 2, ((0, empty),), ((0, (4, ()), ((row(1, 0, 0, 0), (0, 1)),) * 2, 0),), (empty,))
        self.assertEqual([is_chart(deep), is_table(chart, deep), takes(chart, deep)], [False] * 3)
        for call, many in ((step, 3), (is_safe_standing, 1), (run_of, 3), (is_table, 1), (wishes, 1), (open_wishes, 1),
                           (table_paper, 1), (takes, 1)):
            self.fails_given(InvalidChart, deep, call, deep, *[deep] * many)
        for call in (wishes, open_wishes, table_paper):
            self.fails_given(InvalidTable, deep, call, chart, deep)
        self.fails_given(InvalidStanding, deep, step, chart, deep, deep, deep)
        self.fails_given(InvalidStanding, deep, is_safe_standing, chart, deep)
        self.fails_given(InvalidNumber, deep, step, chart, (0, row(0, 0)), deep, deep)
        self.fails_at(InvalidRow, None, step, chart, (0, row(0, 0)), 0, deep)
        self.fails_given(InvalidNumber, deep, run_of, chart, deep, deep, deep)
        self.fails_at(InvalidRow, None, run_of, chart, 0, deep, deep)
        self.fails_at(InvalidSteps, 0, run_of, chart, 0, row(0, 0), deep)


class LotsSession(unittest.TestCase):
    def test_session(self):
        nil, one, two, three, less, half = (0, 1), (1, 1), (2, 1), (3, 1), (-1, 1), (1, 2)
        square = box_of(((nil, one), (nil, one)))
        self.assertEqual(
            [square, lies_in(square, (half, one)), lies_in(square, (half, two)), is_lot((1, ())),
             is_lot((2, (((one,), nil),)))],
            [(2, ((((1, 1), (0, 1)), (1, 1)), (((-1, 1), (0, 1)), (0, 1)), (((0, 1), (1, 1)), (1, 1)),
                  (((0, 1), (-1, 1)), (0, 1)))), True, False, True, False])
        self.assertEqual(
            [bounds(square, (one, one), two), bounds(square, (one, one), one), paper_of(square, (one, one), two),
             greatest(square, (one, two))[:3],
             is_paper(square, (one, one), three, ("bound", (one, nil, one, nil)))],
            [True, False, ("bound", ((1, 1), (0, 1), (1, 1), (0, 1))), ("greatest", (3, 1), ((1, 1), (1, 1))), True])
        self.assertEqual(greatest(square, (one, two))[3], (one, nil, two, nil))
        void, open_one = (1, (((one,), nil), ((less,), less))), (1, (((less,), nil),))
        self.assertEqual(
            [point_of(void), greatest(void, (one,))[0], paper_of(void, (one,), nil)[0] in ("void", "bound"),
             greatest(open_one, (one,))[0], is_within(open_one, void), is_within(void, open_one)],
            [None, "void", True, "endless", False, True])
        self.assertEqual(both_of(open_one, void), (1, open_one[1] + void[1]))


class BreaksSession(unittest.TestCase):
    """The session of breaks, as far as it calls charts and tables."""

    def setUp(self):
        nil, one, three, less, half = (0, 1), (1, 1), (3, 1), (-1, 1), (1, 2)
        self.one, self.nil, self.less, self.two = one, nil, less, (2, 1)
        unit, up = box_of(((nil, one),)), (1, (((one,), three),))
        self.halving = (1, 1, ((0, unit),), ((0, (2, (((nil, one), one), ((nil, less), nil))),
                                              (((half, one), nil),), 0),), (up,))
        self.adding = (1, 0, ((0, unit),), ((0, (1, ()), (((one,), one),), 0),), (up,))

    def test_charts(self):
        halving, adding, one, nil = self.halving, self.adding, self.one, self.nil
        self.assertEqual(
            [is_chart(halving), step(halving, (0, (one,)), 0, (one,)),
             run_of(adding, 0, (nil,), ((0, ()), (0, ())))],
            [True, (0, ((3, 2),)), ((0, ((0, 1),)), (0, ((1, 1),)), (0, ((2, 1),)))])

    def test_tables(self):
        halving, adding, one, nil, less = self.halving, self.adding, self.one, self.nil, self.less
        good = ((1, (((one,), self.two), ((less,), nil))),)
        self.assertEqual([open_wishes(halving, good), len(wishes(halving, good))], [(), 5])
        self.assertTrue(takes(halving, table_paper(halving, good)))
        grown = ((1, ((((-1, 1),), (0, 1)),)),)
        self.assertEqual([open_wishes(halving, grown), open_wishes(adding, grown)], [(2,), (2,)])
        self.assertIsNone(table_paper(adding, grown))


if __name__ == "__main__":
    unittest.main()
