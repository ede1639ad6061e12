"""Point 27: claims for the checker, the papers that it accepts, and those that it does not."""

import random
import unittest

from helms import BROAD, RISING, TANK, some_readings, some_state
from judging import SIZES, accepted_by_hand, bent_by_chance
from rigs import (CART_LOOP, TANK_LOOP, TANK_PLANT, limit, made_loops, too_many_by_hand, with_part)
from safehelms.breaks import breaking_row
from safehelms.branches import branch_at, branches_of
from safehelms.cases import chart_of
from safehelms.checker import accepts
from safehelms.compiled import program_of
from safehelms.controllers import first_state, step_of
from safehelms.loops import run
from safehelms.lots import box_of
from safehelms.search import settled
from sums import NO_FRACTIONS, ODD, HelmCase, lot, nested, pair, row

BIG = 10 ** 300
NIL, ONE = pair(0), pair(1)
SQUARE = box_of(((NIL, ONE), (NIL, ONE)))
VOID = lot(2, (1, 0, 0), (-1, 0, -1), (0, 1, 7))
GUARD = lot(2, (0, 1, 1), (0, -1, 0))
# z halves and what comes, from 0 up to 1, is added; z grows by 1.
HALVING = (1, 1, ((0, box_of(((NIL, ONE),))),), ((0, GUARD, ((row("1/2", 1), NIL),), 0),), (lot(1, (1, 3)),))
ADDING = (1, 0, ((0, box_of(((NIL, ONE),))),), ((0, (1, ()), ((row(1), ONE),), 0),), (lot(1, (1, 3)),))
HALVED = (lot(1, (1, 2), (-1, 0)),)
STAY = (0, row(0), (5,), 0, 0)
UP = (0, row("1/4"), (5,), 0, 0)
LOW_LOOP = (with_part(TANK_PLANT, 6, (limit(1, "21/4"),)), TANK_LOOP[1])
TANK_DIRECTIONS = (row(1, 0), row(-1, 0))
SHORT_LOOP = (TANK_PLANT, (8, (("level", 6, 100),), (), (0, 5), (("only", (("out", 0),)),)))


def bound(*weights):
    return "bound", row(*weights)


class CheckerCase(HelmCase):
    def judged(self, claim, paper):
        """What the checker tells, which is what is told by hand."""
        told = accepts(claim, paper)
        self.assertIs(told, accepted_by_hand(claim, paper), (claim, paper))
        return told

    def assert_accepts(self, claim, paper):
        self.assertIs(self.judged(claim, paper), True, (claim, paper))
        # Neither more nor less parts, nor any other kind.
        for other in (claim[:-1], claim + (0,), claim + ((),), claim[1:], list(claim), (claim,), claim + claim[1:]):
            self.assertIs(accepts(other, paper), False)
        for head in SIZES:
            if head != claim[0]:
                self.assertIs(self.judged((head,) + claim[1:], paper), False)
        for value in ODD:
            self.assertIs(accepts((value,) + claim[1:], paper), False)

    def assert_refuses(self, claim, *papers):
        for paper in papers:
            self.assertIs(self.judged(claim, paper), False, (claim, paper))

    def assert_odd_papers(self, claim, but=()):
        for value in ODD + NO_FRACTIONS + [nested(40), ((),), "()", [()], None]:
            if value not in but:
                self.assert_refuses(claim, value)

    def assert_odd_parts(self, claim, paper):
        """Each part of the claim is one of its kind."""
        accepted = [(at, value) for at in range(1, len(claim)) for value in ODD + [nested(40)]
                    if self.judged(with_part(claim, at, value), paper)]
        # Readings, a place or an index may be right among them.
        self.assertTrue(all(type(value) in (tuple, int) and at > 2 for at, value in accepted), accepted)

    def bend(self, seed, claim, paper, many=300):
        """Bent claims and papers are judged as by hand; how many of them are accepted."""
        source, told = random.Random(seed), 0
        for _ in range(many):
            told += self.judged(claim, bent_by_chance(source, paper))
            told += self.judged(bent_by_chance(source, claim), paper)
        return told


class Lots(CheckerCase):
    def test_in(self):
        claim = ("in", SQUARE, row(1, 1), pair(2))
        for paper in (bound(1, 0, 1, 0), bound(1, 0, 1, 0)):
            self.assert_accepts(claim, paper)
        self.assert_accepts(("in", SQUARE, row(1, -1), pair(1)), bound(1, 0, 0, 1))
        self.assert_accepts(("in", VOID, row(3, 5), pair(-BIG)), ("void", row(1, 1, 0)))
        self.assert_accepts(claim=("in", (12, ()), row(*[0] * 12), NIL), paper=bound())
        self.assert_accepts(("in", SQUARE, row(0, 0), NIL), bound(0, 0, 0, 0))
        self.assert_refuses(("in", SQUARE, row(1, 1), pair("3/2")), bound(1, 0, 1, 0))
        self.assert_refuses(claim, bound(1, 0, 0, 0), bound(1, 0, 1), bound(1, 0, 1, 0, 0), bound(2, 1, 1, 0)[1],
                            ("void", row(1, 0, 1, 0)), list(bound(1, 0, 1, 0)), bound(1, 0, 1, 0) + ((),),
                            ("Bound", row(1, 0, 1, 0)), bound(1, 0, 2, 1)[::-1], ())
        self.assert_accepts(claim, bound(1, 0, 1, 0))
        # Weights that sum up to the row, and to more than the bound.
        self.assert_refuses(("in", SQUARE, row(0, 0), NIL), bound(1, 1, 0, 0), bound(-1, -1, 0, 0))
        self.assert_accepts(("in", SQUARE, row(0, 0), ONE), bound(1, 1, 0, 0))
        self.assert_odd_papers(claim)
        self.assert_odd_parts(claim, bound(1, 0, 1, 0))
        self.bend(2701, claim, bound(1, 0, 1, 0))
        self.bend(2702, ("in", VOID, row(3, 5), pair(-4)), ("void", row(1, 1, 0)))

    def test_not_in(self):
        claim = ("not in", SQUARE, row(1, 1), pair("3/2"))
        self.assert_accepts(claim, row(1, 1))
        self.assert_accepts(claim, row("3/4", "7/8"))
        # On the bound; in the lot, but below it; above it, but not in the lot.
        self.assert_refuses(claim, row("3/4", "3/4"), row(0, 0), row(2, 2), row(-1, 5), row(1), row(1, 1, 1), (1, 1),
                            list(row(1, 1)), bound(1, 0, 1, 0), ())
        self.assert_refuses(("not in", VOID, row(1, 1), pair(-5)), row(0, 0), row(1, 1), row(-1, 0))
        self.assert_odd_papers(claim)
        self.assert_odd_parts(claim, row(1, 1))
        self.bend(2703, claim, row(1, "9/10"))

    def test_void_and_some(self):
        void, some = ("void", VOID), ("some", SQUARE)
        self.assert_accepts(void, row(1, 1, 0))
        self.assert_accepts(void, row(5, 5, 0))
        self.assert_refuses(void, row(1, 1, 1), row(1, 0, 0), row(0, 0, 0), row(-1, -1, 0), row(1, 1), row(1, 1, 0, 0),
                            ("void", row(1, 1, 0)), ())
        self.assert_refuses(("void", SQUARE), row(1, 1, 0, 0), row(0, 0, 0, 0), row(1, 1, 1, 1))
        self.assert_refuses(("void", (3, ())), (), row(0, 0, 0))
        self.assert_accepts(some, row(0, 1))
        self.assert_accepts(("some", (3, ())), row(BIG, -1, "1/7"))
        self.assert_refuses(some, row(0, 2), row("-1/9", 0), row(1), row(0, 0, 0), ())
        self.assert_refuses(("some", VOID), row(0, 0), row(1, 0), row("1/2", "1/2"))
        for claim, paper in ((void, row(1, 1, 0)), (some, row(0, 1))):
            self.assert_odd_papers(claim)
            self.assert_odd_parts(claim, paper)
            self.bend(2704, claim, paper)

    def test_one_of_two_that_exclude_one_another(self):
        """Whatever papers are made of small numbers: not both of two claims are accepted."""
        numbers = [pair(k) for k in ("0", "1/2", "1", "2", "-1")]
        papers = [(kind, (a, b, c)) for kind in ("bound", "void") for a in numbers for b in numbers for c in numbers]
        papers += [(a, b) for a in numbers for b in numbers] + [(a, b, c) for a in numbers for b in numbers for c in numbers]
        for one_lot in (VOID, lot(2, (1, 0, 1), (-1, 0, 0), (0, 1, 1)), lot(2, (1, 1, 1), (-1, 0, 0), (0, -1, 0))):
            for wish, limit_ in ((row(1, 1), pair(1)), (row(1, 0), pair("1/2")), (row(0, 0), pair(0))):
                kinds = {head: any(self.judged((head, one_lot, wish, limit_), paper) for paper in papers)
                         for head in ("in", "not in")}
                self.assertFalse(all(kinds.values()))
            kinds = {head: any(self.judged((head, one_lot), paper) for paper in papers) for head in ("void", "some")}
            self.assertEqual(sorted(kinds.values()), [False, True])


class ChartsAndTables(CheckerCase):
    def test_safe(self):
        kind, paper = settled(HALVING, (row(1), row(-1)), 0)
        self.assertEqual(kind, "open")
        table, papers = HALVED, (bound(1, 0), bound(0, 1), bound("1/2", 0, 1, 0), bound(0, "1/2", 0, 1), bound(1, 0))
        # Up to 2 for the start: 1 is enough. 2 / 2 + 1. Up to 3 at the end: 2 is enough.
        paper = (table, papers)
        claim = ("safe", HALVING)
        self.assert_accepts(claim, paper)
        self.assert_refuses(claim, (table, papers[:-1]), (table, papers + papers[-1:]), (table, papers[::-1]),
                            (table * 2, papers), ((), papers), (table, ()), table, papers, list(paper), paper[::-1], (),
                            ((lot(1, (1, "19/10"), (-1, 0)),), papers), ((lot(1, (1, 4), (-1, 0)),), papers),
                            (table, list(papers)), paper + ((),))
        self.assert_odd_papers(claim)
        self.assert_odd_parts(claim, paper)
        self.assertGreater(self.bend(2705, claim, paper, 500), 5)
        self.assert_refuses(("safe", ADDING), paper)

    def test_broken(self):
        claim = ("broken", ADDING)
        paper = breaking_row(ADDING, 3)
        self.assert_accepts(claim, paper)
        self.assert_accepts(claim, (0, row("1/2"), ((0, ()),) * 3))
        self.assert_accepts(claim, (0, row(0), ((0, ()),) * 200))
        # Up to 3; no state of the start; no such start, case, or row of what comes.
        self.assert_refuses(claim, (0, row(0), ((0, ()),) * 3), (0, row(2), ((0, ()),) * 3), (1, row(1), ((0, ()),) * 3),
                            (0, row(1), ((1, ()),) * 3), (0, row(1), ((0, (NIL,)),) * 3), (0, row(1), ()),
                            (0, row(1), [(0, ())] * 3), (False, row(1), ((0, ()),) * 3), (0, row(1)), ())
        self.assert_odd_papers(claim)
        self.assert_odd_parts(claim, paper)
        self.assertGreater(self.bend(2706, claim, paper), 5)
        self.assert_refuses(("broken", HALVING), *[(0, row(a), ((0, row(b)),) * many) for a in (0, 1) for b in (0, 1)
                                                   for many in range(8)])


class Controllers(CheckerCase):
    def test_step(self):
        claim = ("step", TANK, (0, (0,)), (50,), 5, (0, (1,)))
        self.assert_accepts(claim, ())
        self.assert_accepts(("step", TANK, (0, (9,)), (81,), 0, (1, (9,))), ())
        for other in (with_part(claim, 4, 4), with_part(claim, 5, (0, (2,))), with_part(claim, 5, (1, (1,))),
                      with_part(claim, 3, (81,)), with_part(claim, 3, (101,)), with_part(claim, 2, (0, (1,))),
                      with_part(claim, 1, RISING), with_part(claim, 5, (False, (1,))), with_part(claim, 5, (0, (True,))),
                      with_part(claim, 5, (0, [1])), with_part(claim, 3, (50, 50)), with_part(claim, 3, ())):
            self.assert_refuses(other, ())
        # A command 0 or 1 is a whole number.
        self.assert_refuses(("step", TANK, (0, (9,)), (81,), False, (1, (9,))), ())
        self.assert_odd_papers(claim, but=((),))
        self.assert_odd_parts(claim, ())
        self.assertGreater(self.bend(2707, claim, (), 600), 0)

    def test_leaves(self):
        claim = ("leaves", RISING, (0, ()), (64,), (0, 2))
        self.assert_accepts(claim, ())
        self.assert_accepts(("leaves", RISING, (0, ()), (BIG,), ()), ())
        for place in ((), (0,), (0, 2, 2), (1,), (False, 2), [0, 2], (0, "2"), None):
            self.assert_refuses(with_part(claim, 4, place), ())
        self.assert_refuses(with_part(claim, 3, (63,)), ())
        self.assert_refuses(with_part(claim, 3, (101,)), ())
        self.assert_odd_papers(claim, but=((),))
        self.assert_odd_parts(claim, ())
        self.assertGreater(self.bend(2708, claim, (), 600), 0)

    def test_branch(self):
        for numbers, index in (((0, 81), 0), ((0, 80), 1), ((9, 80), 2), ((-BIG, -BIG), 1), ((BIG, 200), 0)):
            for other in range(-1, 5):
                self.assertIs(self.judged(("branch", TANK, 0, numbers, other), ()), other == index)
        claim = ("branch", TANK, 1, (3, 40), 0)
        self.assert_accepts(claim, ())
        for other in (with_part(claim, 2, 2), with_part(claim, 2, -1), with_part(claim, 3, (3,)), with_part(claim, 3, ()),
                      with_part(claim, 3, (3, 40, 0)), with_part(claim, 3, [3, 40]), with_part(claim, 4, False),
                      with_part(claim, 2, True)):
            self.assert_refuses(other, ())
        self.assert_odd_papers(claim, but=((),))
        self.assert_odd_parts(claim, ())
        self.assertGreater(self.bend(2709, claim, (), 600), 0)

    def test_does(self):
        program, layout = program_of(TANK)
        claim = ("does", TANK, program, layout, (0, (9,)), (81,))
        self.assert_accepts(claim, ())
        by_hand = (("put", 7, 40), ("put", 5, 0), ("below", 7, 9, 4), ("put", 6, 0), ("stop",))
        resting = ("does", TANK, by_hand, ((9,), (4,), 6, 5), (1, (9,)), (40,))
        self.assert_accepts(resting, ())
        self.assert_accepts(with_part(resting, 5, (39,)), ())
        self.assert_accepts(with_part(resting, 5, (41,)), ())
        self.assert_refuses(with_part(resting, 4, (0, (3,))), ())
        # Cells that are not named are 0 at first, up to the last one of 128.
        far = (("copy", 126, 127), ("put", 120, 1), ("stop",))
        self.assert_accepts(("does", TANK, far, ((9,), (4,), 120, 126), (1, (9,)), (41,)), ())
        for other in (((9,), (4,), 120, 128), ((9,), (4,), -1, 126), ((9,), (4,), 4, 126), ((126,), (4,), 120, 126),
                      ((9, 10), (4,), 120, 126), ((9,), (), 120, 126), ((9,), (4, 5), 120, 126), ((9,), (4,), 120),
                      ((9,), (4,), 120, 126, 3), [(9,), (4,), 120, 126], ((9,), [4], 120, 126), ((9,), (4,), True, 126)):
            self.assert_refuses(("does", TANK, far, other, (1, (9,)), (41,)), ())
        for other in ((), (("put", 126, 1), ("stop",)), program[:-1], list(program), (("put", 0, 128), *far[1:]), (("put", 128, 0), *far[1:]),
                      (("stop",),) * 2001):
            self.assert_refuses(("does", TANK, other, ((9,), (4,), 120, 126), (1, (9,)), (41,)), ())
        self.assert_odd_papers(claim, but=((),))
        self.assert_odd_parts(claim, ())
        self.assertGreater(self.bend(2710, claim, (), 400), 0)
        self.assertGreater(self.bend(2711, resting, (), 400), 0)

    def test_does_where_the_step_leaves(self):
        stop, layout = (("stop",),), ((0,), (1,), 2, 3)
        self.assert_accepts(("does", TANK, stop, layout, (0, (9,)), (101,)), ())
        self.assert_refuses(("does", TANK, stop, layout, (0, (9,)), (100,)), ())
        self.assert_refuses(("does", TANK, (("put", 0, 128), ("stop",)), layout, (0, (9,)), (101,)), ())
        self.assert_refuses(("does", TANK, stop, layout[:3], (0, (9,)), (101,)), ())
        self.assert_refuses(("does", TANK, (), layout, (0, (9,)), (101,)), ())
        wide = (("put", 0, 2 ** 31), ("stop",))
        self.assert_refuses(("does", with_part(TANK, 0, 32), wide, layout, (0, (9,)), (101,)), ())
        self.assert_accepts(("does", with_part(TANK, 0, 32), (("put", 0, 2 ** 31 - 1), ("stop",)), layout, (0, (9,)),
                             (101,)), ())

    def test_does_at_the_ends(self):
        # The last one of 128 cells, and a program of 2000 rows.
        last, layout = (("put", 127, 1), ("stop",)), ((0,), (1,), 127, 126)
        self.assert_accepts(("does", TANK, last, layout, (1, (9,)), (41,)), ())
        self.assert_accepts(("does", TANK, last, ((0,), (1,), 2, 126), (1, (9,)), (41,)), ())
        self.assert_accepts(("does", TANK, (("jump", 1998),) * 1998 + last, layout, (1, (9,)), (41,)), ())
        self.assert_refuses(("does", TANK, (("jump", 1998),) * 1999 + last, layout, (1, (9,)), (41,)), ())

    def test_other_counts(self):
        """Controllers with other counts of inputs, keeps and phases than one another."""
        source = random.Random(2716)
        for controller in (BROAD, RISING, TANK):
            program, layout = program_of(controller)
            heard, kept, phase, command = layout
            state, readings = first_state(controller), tuple(low for _, low, _ in controller[1])
            self.assert_accepts(("does", controller, program, layout, state, readings), ())
            for other in ((heard[1:], kept, phase, command), (heard + (99,), kept, phase, command),
                          (heard, kept + (99,), phase, command), (heard, (99,) + kept[2:], phase, command),
                          (kept, heard, phase, command), (heard, kept, phase, phase)):
                counts = (len(other[0]), len(other[1])) == (len(heard), len(kept))
                told = self.judged(("does", controller, program, other, state, readings), ())
                self.assertFalse(told and not counts)
            for at in range(-1, 5):
                numbers = state[1] + some_readings(source, controller)
                held = [self.judged(("branch", controller, at, numbers, index), ()) for index in range(25)]
                self.assertEqual(held.count(True), 1 if 0 <= at < len(controller[4]) else 0)

    def test_all_states_and_readings(self):
        source = random.Random(2712)
        program, layout = program_of(TANK)
        for _ in range(60):
            state, readings = some_state(source, TANK), some_readings(source, TANK)
            readings = (readings[0] + source.choice((-1, 0, 1)),)
            self.assertIs(self.judged(("does", TANK, program, layout, state, readings), ()), True)
            told = step_of(TANK, state, readings)
            self.assertIs(self.judged((told[0], TANK, state, readings) + told[1:], ()), True)
            index = branch_at(TANK, state, readings)
            for other in range(len(branches_of(TANK, state[0]))):
                claim = ("branch", TANK, state[0], state[1] + readings, other)
                self.assertIs(self.judged(claim, ()), other == index)


class Loops(CheckerCase):
    def test_loop_safe(self):
        kind, paper = settled(chart_of(TANK_LOOP), TANK_DIRECTIONS, 6)
        self.assertEqual(kind, "safe")
        claim = ("loop safe", TANK_LOOP)
        self.assert_accepts(claim, paper)
        table, papers = paper
        self.assert_refuses(claim, (table, papers[:-1]), (table, papers + papers[:1]), table, papers, (), paper[::-1])
        self.assert_refuses(("loop safe", LOW_LOOP), paper)
        self.assert_odd_papers(claim)
        self.assert_odd_parts(claim, paper)
        self.bend(2713, claim, paper, 60)
        # The same paper, for the chart.
        self.assertIs(self.judged(("safe", chart_of(TANK_LOOP)), paper), True)
        self.assertIs(self.judged(("safe", TANK_LOOP), paper), False)

    def test_loops_without_chart(self):
        for loop in [CART_LOOP] + made_loops(random.Random(2714), 5, lambda loop: too_many_by_hand(loop) is not None):
            self.assert_refuses(("loop safe", loop), ((), ()), ((1, ()), ()), (((1, ()),), ((),)), ())

    def test_loop_broken(self):
        claim, paper = ("loop broken", LOW_LOOP), (row(5), (UP, UP))
        self.assertEqual(run(LOW_LOOP, *paper)[-1][2], row("11/2"))
        self.assert_accepts(claim, paper)
        self.assert_accepts(claim, (row(6), ()))
        self.assert_accepts(claim, (row(6), ((0, row("1/4"), (6,), 0, 0),)))
        self.assert_refuses(claim, (row(5), ()), (row(5), (UP,)), (row(5), (UP, UP, STAY, UP, UP, UP, UP)), (row(5), [UP, UP]),
                            (row(7), ()), (row(5), (UP, with_part(UP, 2, (9,)))), (row(5), (UP, UP), ()), row(6), (),
                            (row(5), None), (None, ()))
        self.assert_refuses(("loop broken", TANK_LOOP), paper, (row(6), ()))
        self.assert_odd_papers(claim)
        self.assert_odd_parts(claim, paper)
        self.assertGreater(self.bend(2715, claim, paper, 200), 5)

    def test_the_last_standing_counts(self):
        sink = (0, row("-1/4"), (5,), 0, 0)
        self.assert_accepts(("loop broken", LOW_LOOP), (row(5), (UP, UP)))
        self.assert_refuses(("loop broken", LOW_LOOP), (row(5), (UP, UP, (0, row("-1/4"), (6,), 0, 0))))
        self.assert_refuses(("loop broken", LOW_LOOP), (row(5), (sink,)))

    def test_spoilt_standings(self):
        claim = ("loop broken", SHORT_LOOP)
        self.assert_accepts(claim, (row(5), (STAY,)))
        self.assert_refuses(claim, (row(5), (STAY, STAY)), (row(5), ()))

    def test_up_to_sixty_steps(self):
        loop = (with_part(TANK_PLANT, 6, (limit(1, 4),)), TANK_LOOP[1])
        for many in (59, 60):
            self.assert_accepts(("loop broken", loop), (row(5), (STAY,) * many))
        for many in (61, 62, 200):
            self.assert_refuses(("loop broken", loop), (row(5), (STAY,) * many))


class AnythingAtAll(CheckerCase):
    def test_no_claims(self):
        for value in ODD + NO_FRACTIONS + [nested(40), ("in",), ("safe", ()), ("claim", SQUARE), "in", ("in",) * 4]:
            for paper in ODD + [(), nested(40)]:
                self.assertIs(accepts(value, paper), False)
        for head in SIZES:
            for value in ODD + [nested(39)]:
                for many in range(7):
                    self.assertIs(accepts((head,) + (value,) * many, value), False)
                    self.assertIs(accepts((head,) + (value,) * many, ()), False)
        self.assertIs(accepts(paper=(), claim=("some", SQUARE)), False)
        self.assertIs(accepts(paper=row(0, 0), claim=("some", SQUARE)), True)


if __name__ == "__main__":
    unittest.main()
