"""Points 1 and 2: loops led through all parts of the program, from their texts to papers and safe runs."""

import random
import unittest

from rigs import TANK_LOOP, made_loops, some_rows, some_start, too_many_by_hand
from safehelms.branches import branch_at, branch_step, branches_of, worth_of
from safehelms.cases import cases_for, chart_of, numbers_of, numbers_that_come, places_of
from safehelms.certificates import certify_does, certify_loop, certify_run, certify_step
from safehelms.charts import is_chart, is_safe_standing, run_of, step
from safehelms.checker import accepts
from safehelms.compiled import cells_for, program_of, told_by
from safehelms.controllers import first_state, restarted, step_of
from safehelms.histories import history_of, history_text
from safehelms.loops import is_safe, run
from safehelms.machine import run_program
from safehelms.plants import moved, plant_of, plant_text, readings_of, within_drive
from safehelms.shown import refused, shown, shown_names, shown_paper
from safehelms.stored import blank, restored, writes_of, written
from safehelms.tables import takes
from safehelms.texts import controller_of, text_of
from sums import HelmCase, num, row


def place_of(loop, standing):
    """The index of the place that a standing is at."""
    if len(standing) == 2:
        place = ("spoilt",)
    else:
        place = ("off",) if standing[0] == 0 else (standing[5][0], standing[1], 1)
    return places_of(loop).index(place)


class WholeCase(HelmCase):
    def assert_texts(self, loop, state, rows):
        self.assertEqual((plant_of(plant_text(loop[0])), controller_of(text_of(loop[1]))), loop)
        self.assertEqual(history_of(loop, history_text(loop, state, rows)), (state, rows))

    def assert_step(self, loop, standing, comes, then):
        """The step, the branch and the program's run tell one command, by which the plant goes on."""
        plant, controller = loop
        mode, noise, readings, held, cut = comes
        if cut:
            self.assertEqual(then[5], restarted(controller, standing[5]))
            drive = plant[5][2]
        else:
            heard = (standing[3] + (readings,))[0]
            told = step_of(controller, standing[5], heard)
            self.assertEqual(branch_step(controller, standing[5], heard), told)
            for certified in (certify_step(controller, standing[5], heard), certify_does(controller, standing[5], heard)):
                self.assertIs(accepts(*certified), True)
            if told[0] == "leaves":
                self.assertEqual(then, ("spoilt", told[1]))
                return
            program, _ = program_of(controller)
            end = run_program(controller[0], program, cells_for(controller, standing[5], heard))
            self.assertEqual(told_by(controller, end), told[1:])
            index = branch_at(controller, standing[5], heard)
            branch = branches_of(controller, standing[5][0])[index]
            self.assertEqual(worth_of(branch[3], standing[5][1] + heard), told[1])
            self.assertEqual(then[5], told[2])
            drive = standing[4] if held else within_drive(plant, told[1])
        self.assertEqual(then[2], moved(plant, mode, standing[2], drive, noise))
        self.assertEqual(then[4], drive)

    def assert_memory(self, source, loop, standings):
        """Cut at any write, the memory tells the state that was written whole; a step cut so is one with CUT 1."""
        controller = loop[1]
        memory, last = blank(controller), first_state(controller)
        for standing in standings[1:]:
            if len(standing) == 2:
                return
            writes = writes_of(controller, memory, standing[5])
            many = source.choice((len(writes), source.randrange(len(writes) + 1)))
            memory = written(controller, memory, writes[:many])
            last = standing[5] if many == len(writes) else last
            self.assertEqual(restored(controller, memory), restarted(controller, last))

    def assert_chart(self, loop, standings, rows):
        """The run is one of the chart, by the cases told for its steps."""
        chart, steps = chart_of(loop), []
        self.assertIs(is_chart(chart), True)
        for standing, comes, then in zip(standings, rows, standings[1:]):
            coming = numbers_that_come(loop, standing, comes)
            told = cases_for(loop, standing, comes)
            at = (place_of(loop, standing), numbers_of(loop, standing))
            self.assertTrue(len(told) == 1 or (len(told) > 1 and len(then) == 2))
            for case in told:
                end = numbers_of(loop, then if len(then) == 6 else standing)
                self.assertEqual(step(chart, at, case, coming), (place_of(loop, then), end))
            steps.append((told[0], coming))
        led = run_of(chart, 0, numbers_of(loop, standings[0]), tuple(steps))
        self.assertEqual([place for place, _ in led], [place_of(loop, standing) for standing in standings])
        self.assertEqual([is_safe_standing(chart, end) for end in led], [is_safe(loop, end) for end in standings])
        return led

    def lead(self, source, loop, state, rows):
        standings = run(loop, state, rows)
        self.assert_texts(loop, state, rows)
        for standing, comes, then in zip(standings, rows, standings[1:]):
            self.assert_step(loop, standing, comes, then)
        self.assert_memory(source, loop, standings)
        return standings


class WholeProgram(WholeCase):
    def assert_in_table(self, led, table):
        """Each standing of the run lies in the table's lot of its place."""
        for place, numbers in led:
            for wish, bound in table[place][1]:
                self.assertLessEqual(sum(num(a) * num(b) for a, b in zip(wish, numbers)), num(bound))

    def test_loops_with_a_paper(self):
        source = random.Random(2741)
        told = certify_loop(TANK_LOOP, (row(1, 0), row(-1, 0)), 6)
        papers = [(shown(name), shown_paper(name)) for name in shown_names()] + [(TANK_LOOP, told[1])]
        for loop, paper in papers:
            self.assertIs(takes(chart_of(loop), paper), True)
            self.assertIs(accepts(("loop safe", loop), paper), True)
            for often in ({}, {"cuts": 0.3, "holds": 1}):
                state = some_start(source, loop)
                rows = some_rows(source, loop, state, 12, **often)
                standings = self.lead(source, loop, state, rows)
                self.assertEqual(len(standings), 13)
                self.assertTrue(all(is_safe(loop, standing) for standing in standings))
                self.assertIsNone(certify_run(loop, state, rows))
                self.assert_in_table(self.assert_chart(loop, standings, rows), paper[0])
                self.assertTrue(all(least <= most for least, most in readings_of(loop[0], standings[-1][2])))

    def test_loops_that_are_refused(self):
        for name in shown_names():
            loop, state, rows = refused(name)
            standings = self.lead(random.Random(2742), loop, state, rows)
            self.assertIs(is_safe(loop, standings[-1]), False)
            self.assertIs(accepts(*certify_run(loop, state, rows)), True)
            self.assert_chart(loop, standings, rows)

    def test_random_loops(self):
        source = random.Random(2743)
        for loop in made_loops(source, 20, lambda loop: too_many_by_hand(loop) is None):
            state = some_start(source, loop)
            rows = some_rows(source, loop, state, 6)
            standings = self.lead(source, loop, state, rows)
            self.assert_chart(loop, standings, rows)
            broken = certify_run(loop, state, rows)
            self.assertEqual(broken is None, all(is_safe(loop, standing) for standing in standings))


if __name__ == "__main__":
    unittest.main()
