"""The names, arguments and files of the interface, and its sessions as they stand in the document."""

import inspect
import unittest
from importlib import import_module

from helms import RISING, TANK
from rigs import TANK_LOOP, TANK_PLANT
from safehelms.branches import branch_at, branch_step, branches_of, worth_of
from safehelms.breaks import breaking_row, is_breaking
from safehelms.cases import cases_for, chart_of, numbers_of, numbers_that_come, places_of
from safehelms.certificates import (certify_bound, certify_chart, certify_does, certify_loop, certify_run,
                                    certify_step, certify_void)
from safehelms.charts import is_chart, is_safe_standing, run_of, step
from safehelms.checker import accepts
from safehelms.compiled import cells_for, program_of, told_by
from safehelms.console import said
from safehelms.controllers import first_state, is_controller, is_state, restarted, run_from, step_of
from safehelms.errors import (InvalidCells, InvalidChart, InvalidComes, InvalidController, InvalidDirections,
                              InvalidForm, InvalidFraction, InvalidLoop, InvalidLot, InvalidMemory, InvalidName, InvalidNumber,
                              InvalidNumbers, InvalidPairs, InvalidPlant, InvalidProgram, InvalidReadings, InvalidRow,
                              InvalidRows, InvalidStanding, InvalidState, InvalidSteps, InvalidTable, InvalidText,
                              InvalidWrites)
from safehelms.histories import history_of, history_text
from safehelms.loops import begun, first_unsafe, fits, gone_on, is_loop, is_safe, is_standing, run
from safehelms.loops import step as loop_step
from safehelms.lots import (both_of, bounds, box_of, greatest, is_lot, is_paper, is_row, is_within, lies_in, paper_of,
                            point_of)
from safehelms.machine import is_program, run_program, wrapped
from safehelms.plants import is_plant, is_safe_row, moved, plant_of, plant_text, readings_of, within_drive
from safehelms.search import settled, table_by
from safehelms.shown import refused, shown, shown_paper
from safehelms.stored import blank, is_memory, restored, writes_of, written
from safehelms.tables import is_table, open_wishes, table_paper, takes, wishes
from safehelms.texts import controller_of, is_name, text_of
from sums import HelmCase, lot, nested, row

INTERFACE = {
    "safehelms.lots": {
        "is_lot": ["value"], "is_row": ["size", "value"], "lies_in": ["lot", "point"], "point_of": ["lot"],
        "box_of": ["pairs"], "both_of": ["lot", "other"], "bounds": ["lot", "row", "bound"],
        "paper_of": ["lot", "row", "bound"], "is_paper": ["lot", "row", "bound", "paper"],
        "greatest": ["lot", "row"], "is_within": ["lot", "other"]},
    "safehelms.charts": {
        "is_chart": ["value"], "step": ["chart", "standing", "case", "comes"],
        "is_safe_standing": ["chart", "standing"], "run_of": ["chart", "start", "state", "steps"]},
    "safehelms.tables": {
        "is_table": ["chart", "value"], "wishes": ["chart", "table"], "open_wishes": ["chart", "table"],
        "table_paper": ["chart", "table"], "takes": ["chart", "paper"]},
    "safehelms.search": {
        "table_by": ["chart", "directions", "patience"], "settled": ["chart", "directions", "patience"]},
    "safehelms.breaks": {"is_breaking": ["chart", "row"], "breaking_row": ["chart", "depth"]},
    "safehelms.controllers": {
        "is_controller": ["value"], "is_state": ["controller", "value"], "first_state": ["controller"],
        "restarted": ["controller", "state"], "step_of": ["controller", "state", "readings"],
        "run_from": ["controller", "state", "rows"]},
    "safehelms.branches": {
        "branches_of": ["controller", "phase"], "worth_of": ["form", "numbers"],
        "branch_at": ["controller", "state", "readings"], "branch_step": ["controller", "state", "readings"]},
    "safehelms.machine": {
        "is_program": ["value"], "wrapped": ["width", "number"], "run_program": ["width", "program", "cells"]},
    "safehelms.compiled": {
        "program_of": ["controller"], "cells_for": ["controller", "state", "readings"],
        "told_by": ["controller", "cells"]},
    "safehelms.texts": {"is_name": ["value"], "text_of": ["controller"], "controller_of": ["text"]},
    "safehelms.stored": {
        "is_memory": ["controller", "value"], "blank": ["controller"], "writes_of": ["controller", "memory", "state"],
        "written": ["controller", "memory", "writes"], "restored": ["controller", "memory"]},
    "safehelms.plants": {
        "is_plant": ["value"], "is_safe_row": ["plant", "row"], "moved": ["plant", "mode", "row", "drive", "noise"],
        "readings_of": ["plant", "row"], "within_drive": ["plant", "command"], "plant_text": ["plant"],
        "plant_of": ["text"]},
    "safehelms.loops": {
        "is_loop": ["value"], "is_standing": ["loop", "value"], "begun": ["loop", "state"],
        "fits": ["loop", "standing", "value"], "step": ["loop", "standing", "comes"], "is_safe": ["loop", "standing"],
        "run": ["loop", "state", "rows"], "gone_on": ["loop", "standing", "rows"],
        "first_unsafe": ["loop", "state", "rows"]},
    "safehelms.histories": {"history_text": ["loop", "state", "rows"], "history_of": ["loop", "text"]},
    "safehelms.cases": {
        "places_of": ["loop"], "numbers_of": ["loop", "standing"], "numbers_that_come": ["loop", "standing", "comes"],
        "chart_of": ["loop"], "cases_for": ["loop", "standing", "comes"]},
    "safehelms.shown": {"shown_names": [], "shown": ["name"], "refused": ["name"], "shown_paper": ["name"]},
    "safehelms.console": {"said": ["commands"]},
    "safehelms.checker": {"accepts": ["claim", "paper"]},
    "safehelms.certificates": {
        "certify_bound": ["lot", "row", "bound"], "certify_void": ["lot"],
        "certify_chart": ["chart", "directions", "patience", "depth"],
        "certify_step": ["controller", "state", "readings"], "certify_does": ["controller", "state", "readings"],
        "certify_loop": ["loop", "directions", "patience"], "certify_run": ["loop", "state", "rows"]},
}


class Names(unittest.TestCase):
    def test_each_function_stands_in_its_file_with_its_arguments(self):
        for module, functions in INTERFACE.items():
            for name, parameters in functions.items():
                function = getattr(import_module(module), name)
                self.assertTrue(inspect.isfunction(function), name)
                self.assertEqual(function.__module__, module, name)
                self.assertEqual(list(inspect.signature(function).parameters), parameters, name)


class DeepValues(HelmCase):
    """A value nested 40 deep, passed for each argument for which any value may be passed."""

    deep = nested(40)

    def test_lots(self):
        deep, line = self.deep, lot(2, (1, 1, 1))
        self.assertEqual([is_lot(deep), is_row(1, deep), is_row(2, deep)], [False] * 3)
        self.assertIs(is_paper(line, row(1, 1), (1, 1), deep), False)
        self.fails_given(InvalidNumber, deep, is_row, deep, deep)
        self.fails_at(InvalidPairs, 0, box_of, deep)
        for call, many in ((point_of, 0), (lies_in, 1), (both_of, 1), (is_within, 1), (greatest, 1), (bounds, 2),
                           (paper_of, 2), (is_paper, 3)):
            self.fails_given(InvalidLot, deep, call, deep, *[deep] * many)
        for call, many in ((lies_in, 0), (greatest, 0), (bounds, 1), (paper_of, 1), (is_paper, 2)):
            self.fails_at(InvalidRow, None, call, line, deep, *[deep] * many)
        for call, many in ((bounds, 0), (paper_of, 0), (is_paper, 1)):
            self.fails_given(InvalidFraction, deep, call, line, row(1, 1), deep, *[deep] * many)
        for call in (both_of, is_within):
            self.fails_given(InvalidLot, deep, call, line, deep)

    def test_charts_and_tables(self):
        deep, empty = self.deep, (2, ())
        chart = (2, 2, ((0, empty),), ((0, (4, ()), ((row(1, 0, 0, 0), (0, 1)),) * 2, 0),), (empty,))
        self.assertEqual([is_chart(deep), is_table(chart, deep), takes(chart, deep)], [False] * 3)
        for call, many in ((step, 3), (is_safe_standing, 1), (run_of, 3), (is_table, 1), (wishes, 1), (open_wishes, 1),
                           (table_paper, 1), (takes, 1)):
            self.fails_given(InvalidChart, deep, call, deep, *[deep] * many)
        for call in (wishes, open_wishes, table_paper):
            self.fails_given(InvalidTable, deep, call, chart, deep)
        self.fails_given(InvalidStanding, deep, step, chart, deep, deep, deep)
        self.fails_given(InvalidStanding, deep, is_safe_standing, chart, deep)
        self.fails_given(InvalidNumber, deep, step, chart, (0, row(0, 0)), deep, deep)
        self.fails_at(InvalidRow, None, step, chart, (0, row(0, 0)), 0, deep)
        self.fails_given(InvalidNumber, deep, run_of, chart, deep, deep, deep)
        self.fails_at(InvalidRow, None, run_of, chart, 0, deep, deep)
        self.fails_at(InvalidSteps, 0, run_of, chart, 0, row(0, 0), deep)


    def test_search_and_breaks(self):
        deep = self.deep
        chart = (1, 0, ((0, (1, ())),), (), ((1, ()),))
        for call, many in ((table_by, 2), (settled, 2), (is_breaking, 1), (breaking_row, 1)):
            self.fails_given(InvalidChart, deep, call, deep, *[deep] * many)
        self.assertIs(is_breaking(chart, deep), False)
        for call in (table_by, settled):
            self.fails_at(InvalidDirections, 0, call, chart, deep, deep)
            self.fails_given(InvalidNumber, deep, call, chart, (row(1),), deep)
        self.fails_given(InvalidNumber, deep, breaking_row, chart, deep)

    def test_controllers_and_branches(self):
        deep = self.deep
        self.assertIs(is_controller(deep), False)
        self.assertIs(is_state(TANK, deep), False)
        for call, many in ((is_state, 1), (first_state, 0), (restarted, 1), (step_of, 2), (run_from, 2),
                           (branches_of, 1), (branch_at, 2), (branch_step, 2), (program_of, 0), (cells_for, 2),
                           (told_by, 1), (text_of, 0), (is_memory, 1), (blank, 0), (writes_of, 2), (written, 2),
                           (restored, 1)):
            self.fails_given(InvalidController, deep, call, deep, *[deep] * many)
        for call, many in ((restarted, 0), (step_of, 1), (run_from, 1), (branch_at, 1), (branch_step, 1),
                           (cells_for, 1)):
            self.fails_given(InvalidState, deep, call, TANK, deep, *[deep] * many)
        for call in (step_of, branch_at, branch_step, cells_for):
            self.fails_at(InvalidReadings, 0, call, TANK, (0, (0,)), deep)
        self.fails_at(InvalidRows, 0, run_from, TANK, (0, (0,)), deep)
        self.fails_given(InvalidNumber, deep, branches_of, TANK, deep)
        self.fails_given(InvalidForm, deep, worth_of, deep, deep)
        self.fails_at(InvalidNumbers, 0, worth_of, ((1,), 1), deep)

    def test_machines_texts_and_memories(self):
        deep = self.deep
        self.assertEqual([is_program(deep), is_name(deep), is_memory(TANK, deep)], [False] * 3)
        self.fails_given(InvalidNumber, deep, wrapped, deep, deep)
        self.fails_given(InvalidNumber, deep, wrapped, 8, deep)
        self.fails_given(InvalidNumber, deep, run_program, deep, deep, deep)
        self.fails_at(InvalidProgram, 0, run_program, 8, deep, deep)
        self.fails_at(InvalidCells, 0, run_program, 8, (("stop",),), deep)
        self.fails_at(InvalidCells, None, told_by, TANK, deep)
        self.fails_at(InvalidText, None, controller_of, deep)
        for call, many in ((writes_of, 1), (written, 1), (restored, 0)):
            self.fails_given(InvalidMemory, deep, call, TANK, deep, *[deep] * many)
        self.fails_given(InvalidState, deep, writes_of, TANK, blank(TANK), deep)
        self.fails_at(InvalidWrites, 0, written, TANK, blank(TANK), deep)

    def test_plants(self):
        deep = self.deep
        self.assertIs(is_plant(deep), False)
        for call, many in ((is_safe_row, 1), (moved, 4), (readings_of, 1), (within_drive, 1), (plant_text, 0)):
            self.fails_given(InvalidPlant, deep, call, deep, *[deep] * many)
        for call in (is_safe_row, readings_of):
            self.fails_at(InvalidRow, 0, call, TANK_PLANT, deep)
        for given, error in (((), InvalidNumber), ((0, row(1)), InvalidNumber)):
            self.fails_given(error, deep, moved, TANK_PLANT, *given, *[deep] * (4 - len(given)))
        for given in ((0,), (0, row(1), 2)):
            self.fails_at(InvalidRow, 0, moved, TANK_PLANT, *given, *[deep] * (4 - len(given)))
        self.fails_given(InvalidNumber, deep, within_drive, TANK_PLANT, deep)
        self.fails_at(InvalidText, None, plant_of, deep)

    def test_loops(self):
        deep, standing = self.deep, begun(TANK_LOOP, row(5))
        self.assertEqual([is_loop(deep), is_standing(TANK_LOOP, deep), fits(TANK_LOOP, standing, deep)], [False] * 3)
        for call, many in ((is_standing, 1), (begun, 1), (fits, 2), (loop_step, 2), (is_safe, 1), (run, 2), (gone_on, 2),
                           (first_unsafe, 2), (history_text, 2), (history_of, 1), (places_of, 0), (numbers_of, 1),
                           (numbers_that_come, 2), (chart_of, 0), (cases_for, 2)):
            self.fails_given(InvalidLoop, deep, call, deep, *[deep] * many)
        for call, many in ((fits, 1), (loop_step, 1), (is_safe, 0), (gone_on, 1), (numbers_of, 0),
                           (numbers_that_come, 1), (cases_for, 1)):
            self.fails_given(InvalidStanding, deep, call, TANK_LOOP, deep, *[deep] * many)
        for call in (loop_step, numbers_that_come, cases_for):
            self.fails_given(InvalidComes, deep, call, TANK_LOOP, standing, deep)
        for call in (begun, run, first_unsafe, history_text):
            self.fails_at(InvalidRow, 0, call, TANK_LOOP, deep, *[deep] * (call is not begun))
        for call, begin in ((run, row(5)), (first_unsafe, row(5)), (history_text, row(5)), (gone_on, standing)):
            self.fails_at(InvalidRows, 0, call, TANK_LOOP, begin, deep)
        self.fails_at(InvalidText, None, history_of, TANK_LOOP, deep)

    def test_shown_and_certificates(self):
        deep, line = self.deep, lot(2, (1, 1, 1))
        chart = (1, 0, ((0, (1, ())),), (), ((1, ()),))
        for call in (shown, refused, shown_paper):
            self.fails_given(InvalidName, deep, call, deep)
        self.fails_at(InvalidRows, 0, said, deep)
        self.assertIs(accepts(deep, deep), False)
        for claim in (("in", line, row(1, 1), (1, 1)), ("void", line), ("some", line), ("safe", chart), ("broken", chart),
                      ("step", TANK, (0, (0,)), (50,), 5, (0, (1,))), ("loop safe", TANK_LOOP),
                      ("loop broken", TANK_LOOP)):
            self.assertIs(accepts(claim, deep), False)
            for at in range(1, len(claim)):
                self.assertIs(accepts(claim[:at] + (deep,) + claim[at + 1:], ()), False)
        self.fails_given(InvalidLot, deep, certify_bound, deep, deep, deep)
        self.fails_at(InvalidRow, None, certify_bound, line, deep, deep)
        self.fails_given(InvalidFraction, deep, certify_bound, line, row(1, 1), deep)
        self.fails_given(InvalidLot, deep, certify_void, deep)
        self.fails_given(InvalidChart, deep, certify_chart, deep, deep, deep, deep)
        self.fails_at(InvalidDirections, 0, certify_chart, chart, deep, deep, deep)
        self.fails_given(InvalidNumber, deep, certify_chart, chart, (row(1),), deep, deep)
        self.fails_given(InvalidNumber, deep, certify_chart, chart, (row(1),), 0, deep)
        for call in (certify_step, certify_does):
            self.fails_given(InvalidController, deep, call, deep, deep, deep)
            self.fails_given(InvalidState, deep, call, TANK, deep, deep)
            self.fails_at(InvalidReadings, 0, call, TANK, (0, (0,)), deep)
        self.fails_given(InvalidLoop, deep, certify_loop, deep, deep, deep)
        self.fails_at(InvalidDirections, 0, certify_loop, TANK_LOOP, deep, deep)
        self.fails_given(InvalidLoop, deep, certify_run, deep, deep, deep)
        self.fails_at(InvalidRow, 0, certify_run, TANK_LOOP, deep, deep)
        self.fails_at(InvalidRows, 0, certify_run, TANK_LOOP, row(5), deep)


class LotsSession(unittest.TestCase):
    def test_session(self):
        nil, one, two, three, less, half = (0, 1), (1, 1), (2, 1), (3, 1), (-1, 1), (1, 2)
        square = box_of(((nil, one), (nil, one)))
        self.assertEqual(
            [square, lies_in(square, (half, one)), lies_in(square, (half, two)), is_lot((1, ())),
             is_lot((2, (((one,), nil),)))],
            [(2, ((((1, 1), (0, 1)), (1, 1)), (((-1, 1), (0, 1)), (0, 1)), (((0, 1), (1, 1)), (1, 1)),
                  (((0, 1), (-1, 1)), (0, 1)))), True, False, True, False])
        self.assertEqual(
            [bounds(square, (one, one), two), bounds(square, (one, one), one), paper_of(square, (one, one), two),
             greatest(square, (one, two))[:3],
             is_paper(square, (one, one), three, ("bound", (one, nil, one, nil)))],
            [True, False, ("bound", ((1, 1), (0, 1), (1, 1), (0, 1))), ("greatest", (3, 1), ((1, 1), (1, 1))), True])
        self.assertEqual(greatest(square, (one, two))[3], (one, nil, two, nil))
        void, open_one = (1, (((one,), nil), ((less,), less))), (1, (((less,), nil),))
        self.assertEqual(
            [point_of(void), greatest(void, (one,))[0], paper_of(void, (one,), nil)[0] in ("void", "bound"),
             greatest(open_one, (one,))[0], is_within(open_one, void), is_within(void, open_one)],
            [None, "void", True, "endless", False, True])
        self.assertEqual(both_of(open_one, void), (1, open_one[1] + void[1]))


class BreaksSession(unittest.TestCase):
    """The session of breaks, with what it calls of charts and tables."""

    def setUp(self):
        nil, one, three, less, half = (0, 1), (1, 1), (3, 1), (-1, 1), (1, 2)
        self.one, self.nil, self.less, self.two = one, nil, less, (2, 1)
        unit, up = box_of(((nil, one),)), (1, (((one,), three),))
        self.halving = (1, 1, ((0, unit),), ((0, (2, (((nil, one), one), ((nil, less), nil))),
                                              (((half, one), nil),), 0),), (up,))
        self.adding = (1, 0, ((0, unit),), ((0, (1, ()), (((one,), one),), 0),), (up,))

    def test_charts(self):
        halving, adding, one, nil = self.halving, self.adding, self.one, self.nil
        self.assertEqual(
            [is_chart(halving), step(halving, (0, (one,)), 0, (one,)),
             run_of(adding, 0, (nil,), ((0, ()), (0, ())))],
            [True, (0, ((3, 2),)), ((0, ((0, 1),)), (0, ((1, 1),)), (0, ((2, 1),)))])

    def test_tables(self):
        halving, adding, one, nil, less = self.halving, self.adding, self.one, self.nil, self.less
        good = ((1, (((one,), self.two), ((less,), nil))),)
        self.assertEqual([open_wishes(halving, good), len(wishes(halving, good))], [(), 5])
        self.assertTrue(takes(halving, table_paper(halving, good)))
        grown = ((1, ((((-1, 1),), (0, 1)),)),)
        self.assertEqual([open_wishes(halving, grown), open_wishes(adding, grown)], [(2,), (2,)])
        self.assertIsNone(table_paper(adding, grown))

    def test_search_and_breaks(self):
        halving, adding, one, less = self.halving, self.adding, self.one, self.less
        self.assertEqual(
            [table_by(adding, ((one,), (less,)), 1), settled(halving, ((one,), (less,)), 0), breaking_row(adding, 2),
             is_breaking(adding, (0, (one,), ((0, ()), (0, ()), (0, ()))))],
            [((1, ((((-1, 1),), (0, 1)),)),), ("open", 2), None, True])


class ControllersSession(unittest.TestCase):
    def test_controllers(self):
        tank, rising = TANK, RISING
        self.assertEqual(
            [is_controller(tank), is_controller(tank[:4]), is_state(tank, (1, (9,))), is_state(tank, (2, (9,))),
             first_state(tank), restarted(tank, (1, (7,)))], [True, False, True, False, (0, (0,)), (0, (7,))])
        self.assertEqual(
            [step_of(tank, (0, (0,)), (50,)), step_of(tank, (0, (9,)), (81,)), step_of(tank, (1, (9,)), (40,)),
             step_of(tank, (0, (9,)), (80,)), step_of(tank, (0, (0,)), (101,))],
            [("step", 5, (0, (1,))), ("step", 0, (1, (9,))), ("step", 0, (0, (9,))), ("step", 5, (0, (9,))),
             ("leaves", ())])
        self.assertEqual(run_from(tank, (0, (8,)), ((10,), (90,), (-1,), (5,))),
                         (("step", 5, (0, (9,))), ("step", 0, (1, (9,))), ("leaves", ())))
        self.assertEqual([step_of(rising, (0, ()), (63,)), step_of(rising, (0, ()), (64,)),
                          is_controller(rising[:4] + ((("only", ()),),))],
                         [("step", 5, (0, ())), ("leaves", (0, 2)), False])

    def test_branches(self):
        tank = TANK
        self.assertEqual(
            [len(branches_of(tank, 0)), worth_of(((2, -1), 5), (3, 4)), branch_at(tank, (0, (0,)), (81,)),
             branch_at(tank, (0, (0,)), (80,)), branch_at(tank, (0, (9,)), (80,)), branch_step(RISING, (0, ()), (64,))],
            [3, 7, 0, 1, 2, ("leaves", (0, 2))])
        self.assertEqual(branches_of(tank, 0)[0],
                         ((((0, 1), -81),), (((), ((0, 1), 0)), ((), ((0, -1), 100)), ((0, 2, 0), ((0, 0), 0)),
                                             ((0, 2, 0), ((0, 0), 5))), (((1, 0), 0),), ((0, 0), 0), 1))
        self.assertEqual([branches_of(tank, 0)[1][0], branches_of(tank, 0)[1][2], branches_of(tank, 0)[2][0],
                          branches_of(tank, 0)[2][2]],
                         [(((0, -1), 80), ((-1, 0), 8)), (((1, 0), 1),), (((0, -1), 80), ((1, 0), -9)), (((0, 0), 9),)])

    def test_machine_and_compiled(self):
        tank = TANK
        adding = (("put", 1, 100), ("below", 0, 1, 3), ("add", 2, 0, 1), ("stop",))
        self.assertEqual([is_program(adding), is_program(adding[:3]), wrapped(8, 200), wrapped(8, -129),
                          run_program(8, adding, (100, 0, 7)), run_program(8, adding, (99, 0, 7))],
                         [True, False, -56, 127, (100, 100, -56), (99, 100, 7)])
        program, layout = program_of(tank)
        self.assertEqual([is_program(program),
                          told_by(tank, run_program(8, program, cells_for(tank, (0, (9,)), (81,)))),
                          told_by(tank, run_program(8, program, cells_for(tank, (1, (9,)), (40,))))],
                         [True, (0, (1, (9,))), (0, (0, (9,)))])
        self.assertEqual(len(layout), 4)

    def test_texts_and_stored(self):
        tank = TANK
        self.assertEqual([text_of(RISING), controller_of(text_of(tank)) == tank, is_name("level_2"), is_name("keep"),
                          is_name("fill")],
                         ["word 8 in level 0 100 out 0 5 phase only set more times 2 level out clamp more 0 5 end",
                          True, False, False, True])
        with self.assertRaises(InvalidText) as caught:
            controller_of("word 8 in level 0 100 out 0 5 phase only out add 1 end")
        self.assertEqual(caught.exception.index, 14)
        fresh = blank(tank)
        some = writes_of(tank, fresh, (1, (9,)))
        self.assertEqual([fresh, some, restored(tank, fresh), restored(tank, written(tank, fresh, some[:2])),
                          restored(tank, written(tank, fresh, some)), is_memory(tank, (0, 0, 0, 0, 0, 0))],
                         [(0, 0, 0, 2, 0, 2), ((3, 1), (4, 9), (5, 1)), (0, (0,)), (0, (0,)), (0, (9,)), False])


class PlantsSession(unittest.TestCase):
    def test_plants(self):
        nil, one, half, less, quarter = (0, 1), (1, 1), (1, 2), (-1, 1), (1, 4)
        modes, noise, start = ((((one,),), (half,), ((-1, 2),)),), (((-1, 4), quarter),), (((4, 1), (6, 1)),)
        tank = (modes, noise, start, (((one,), (-1, 2), half, 5),), 0, (0, 2, 1, 0, 0),
                (((one,), (10, 1)), ((less,), nil)))
        self.assertEqual(
            [is_plant(tank), is_safe_row(tank, (half,)), is_safe_row(tank, (less,)),
             moved(tank, 0, (one,), 2, (nil,)), readings_of(tank, ((11, 2),)), readings_of(tank, (quarter,)),
             within_drive(tank, 7)], [True, True, False, ((3, 2),), ((5, 6),), ((0, 0),), 2])
        self.assertEqual(
            plant_text(tank).split("\n"),
            ["numbers 1", "mode : 1 1/2 -1/2", "noise -1/4 1/4", "start 4 6", "sensor 1 -1/2 1/2 5", "delay 0",
             "drive 0 2 1 0 0", "safe 1 10", "safe -1 0", ""])
        self.assertEqual(plant_of(plant_text(tank)), tank)


class CertificatesSession(unittest.TestCase):
    def test_certificates(self):
        one, less, nil = (1, 1), (-1, 1), (0, 1)
        line = (1, (((one,), one), ((less,), nil)))
        self.assertEqual(
            [certify_bound(line, (one,), one), certify_bound(line, (one,), nil)[0][0], certify_void(line)[0][0],
             certify_void((1, (((one,), nil), ((less,), less))))[0][0]],
            [(("in", (1, ((((1, 1),), (1, 1)), (((-1, 1),), (0, 1)))), ((1, 1),), (1, 1)), ("bound", ((1, 1), (0, 1)))),
             "not in", "some", "void"])
        adding = (1, 0, ((0, line),), ((0, (1, ()), (((one,), one),), 0),), ((1, (((one,), (3, 1)),)),))
        self.assertEqual(
            [certify_chart(adding, ((one,),), 0, 2), certify_chart(adding, ((one,),), 0, 3)[0][0],
             accepts(("void", line), (nil, nil)), accepts(("some", line), (one,))], [None, "broken", False, True])


if __name__ == "__main__":
    unittest.main()
