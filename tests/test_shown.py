"""The loops that are shown, their papers, and those that are refused, with runs that break them."""

import random
import unittest
from itertools import product

from judging import is_table_paper_by_hand
from rigs import (chart_by_hand, is_safe_standing_by_hand, readings_by_hand, some_comes, some_rows, some_start,
                  standings_by_hand, step_of_loop, begun_by_hand)
from safehelms.cases import chart_of, places_of
from safehelms.certificates import certify_run
from safehelms.checker import accepts
from safehelms.errors import InvalidName
from safehelms.loops import first_unsafe, gone_on, is_loop, is_standing, run
from safehelms.plants import plant_of, plant_text
from safehelms.search import settled
from safehelms.shown import refused, shown, shown_names, shown_paper
from safehelms.tables import takes
from safehelms.texts import controller_of, text_of
from sums import NO_FRACTIONS, ODD, HelmCase

NAMES = ("brake", "lift", "tank")


class Names(HelmCase):
    def test_in_order(self):
        self.assertEqual(shown_names(), NAMES)

    def test_other_names(self):
        for value in ODD + NO_FRACTIONS + ["Tank", "tank ", " tank", "tan", "tanks", ("tank",), ["tank"], b"tank", "brake lift"]:
            for call in (shown, refused, shown_paper):
                self.fails_given(InvalidName, value, call, value)
        self.fails_given(InvalidName, None, shown, name=None)

    def test_by_name(self):
        for name in NAMES:
            self.assertEqual(shown(name=name), shown(name))
            self.assertEqual(refused(name=name), refused(name))
            self.assertEqual(shown_paper(name=name), shown_paper(name))


class Shown(HelmCase):
    def test_loops(self):
        loops = [shown(name) for name in NAMES]
        for loop in loops:
            self.assertIs(is_loop(loop), True)
            self.assertEqual((plant_of(plant_text(loop[0])), controller_of(text_of(loop[1]))), loop)
        # Between them they have all that a loop may have: numbers, modes, phases, keeps, delays, held and cut drives.
        self.assertEqual(sorted(len(plant[1]) for plant, _ in loops), [1, 1, 2])
        self.assertTrue(any(plant[4] for plant, _ in loops))
        self.assertTrue(any(plant[5][3] for plant, _ in loops))
        self.assertTrue(any(plant[5][4] for plant, _ in loops))
        self.assertTrue(any(len(controller[4]) > 1 and controller[2] for _, controller in loops))
        self.assertTrue(all(len(plant[0]) > 1 and any(low != high for low, high in plant[1]) for plant, _ in loops))

    def test_papers(self):
        for name in NAMES:
            loop, paper = shown(name), shown_paper(name)
            self.assertIs(takes(chart_of(loop), paper), True)
            self.assertIs(is_table_paper_by_hand(chart_by_hand(loop), paper), True)
            self.assertIs(accepts(("loop safe", loop), paper), True)
            self.assertEqual(len(paper[0]), len(places_of(loop)))

    def test_runs_by_chance(self):
        source = random.Random(2731)
        for name in NAMES:
            loop = shown(name)
            for often in ({"cuts": 0, "holds": 0}, {}, {"cuts": 0.5, "holds": 1}, {"cuts": 0.05, "holds": 1}) * 3:
                state = some_start(source, loop)
                rows = some_rows(source, loop, state, 60, **often)
                self.assertEqual(len(rows), 60)
                self.assertIsNone(first_unsafe(loop, state, rows))
                self.assertIsNone(certify_run(loop, state, rows))
                standing = run(loop, state, rows)[-1]
                more = []
                for _ in range(60):
                    more.append(some_comes(source, loop, standing, **often))
                    standing = step_of_loop(loop, standing, more[-1])
                self.assertEqual(gone_on(loop, run(loop, state, rows)[-1], tuple(more))[-1], standing)
                self.assertIs(is_safe_standing_by_hand(loop, standing), True)

    def test_runs_at_all_ends(self):
        """One end of everything for sixty steps: of the start, each mode, the noise and the readings, held and cut."""
        for name in NAMES:
            loop = shown(name)
            plant = loop[0]
            holds, cuts = plant[5][3:]
            for end, mode, side, seen in product((0, 1), range(len(plant[0])), (0, 1), (0, -1)):
                for held, cut in product((0, 1) if holds else (0,), (0, 7) if cuts else (0,)):
                    state = tuple(pair[end] for pair in plant[2])
                    standing, rows = begun_by_hand(loop, state), []
                    for at in range(60):
                        noise = tuple(pair[side] for pair in plant[1])
                        readings = tuple(all_seen[seen] for all_seen in readings_by_hand(plant, standing[2]))
                        if cut and at % cut < 2:
                            rows.append((mode, noise, (), 0, 1))
                        else:
                            held_now = held if standing[0] == 1 and standing[1] < holds else 0
                            rows.append((mode, noise, readings, held_now, 0))
                        standing = step_of_loop(loop, standing, rows[-1])
                    self.assertIsNone(first_unsafe(loop, state, tuple(rows)))


class Refused(HelmCase):
    def test_runs(self):
        for name in NAMES:
            told = refused(name)
            self.assertEqual((type(told), len(told)), (tuple, 3))
            loop, state, rows = told
            self.assertIs(is_loop(loop), True)
            standings = run(loop, state, rows)
            self.assertEqual(standings, standings_by_hand(loop, state, rows))
            self.assertTrue(all(is_standing(loop, standing) and len(standing) == 6 for standing in standings))
            self.assertIs(is_safe_standing_by_hand(loop, standings[-1]), False)
            self.assertIs(accepts(("loop broken", loop), (state, rows)), True)
            self.assertIs(accepts(("loop broken", shown(name)), (state, rows)), False)
            # The last standing is the first one that is not safe, and the controller is that of the loop that is shown.
            self.assertEqual(first_unsafe(loop, state, rows), len(rows))
            self.assertEqual(loop[1], shown(name)[1])

    def test_no_paper(self):
        for name in NAMES:
            loop, chart = refused(name)[0], chart_of(refused(name)[0])
            paper = shown_paper(name)
            self.assertIs(accepts(("loop safe", loop), paper), False)
            directions = {wish: True for one_lot in paper[0] for wish, _ in one_lot[1]}
            if all(len(wish) == chart[0] for wish in directions):
                self.assertEqual(settled(chart, tuple(directions), 6)[0], "open")


if __name__ == "__main__":
    unittest.main()
