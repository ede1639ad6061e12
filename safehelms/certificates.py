"""Certificates: claims that are so, each with a paper for the checker."""

from safehelms.breaks import breaking_row, check_depth
from safehelms.cases import chart_of
from safehelms.compiled import program_of
from safehelms.controllers import step_of
from safehelms.loops import first_unsafe_of, run
from safehelms.lots import check_lot, check_wished
from safehelms.search import check_search, settled
from safehelms.seats import paper_at, point_at, seat_of, void_weights
from safehelms.ways import point_above


def certify_bound(lot, row, bound):
    """The row's product is up to the bound for all that lies in the lot, or it is not."""
    check_wished(lot, row, bound)
    seat = seat_of(lot)
    paper = paper_at(seat, row, bound)
    if paper is not None:
        return (("in", lot, row, bound), paper)
    return (("not in", lot, row, bound), point_above(seat, row, bound))


def certify_void(lot):
    """The lot is void, or some row lies in it."""
    check_lot(lot)
    seat = seat_of(lot)
    if seat.short is not None:
        return (("void", lot), void_weights(seat))
    return (("some", lot), point_at(seat))


def certify_chart(chart, directions, patience, depth):
    """The chart is safe by the table by directions, or broken by a row of up to so many steps; None."""
    check_search(chart, directions, patience)
    check_depth(depth)
    kind, told = settled(chart, directions, patience)
    if kind == "safe":
        return (("safe", chart), told)
    row = breaking_row(chart, depth)
    return None if row is None else (("broken", chart), row)


def certify_step(controller, state, readings):
    """The step tells a command and a state, or it leaves at a place."""
    told = step_of(controller, state, readings)
    return ((told[0], controller, state, readings) + told[1:], ())


def certify_does(controller, state, readings):
    """The controller's program does the step."""
    # The step is told for its errors alone.
    step_of(controller, state, readings)
    program, layout = program_of(controller)
    return (("does", controller, program, layout, state, readings), ())


def certify_loop(loop, directions, patience):
    """The loop is safe by the table by directions of its chart; None."""
    kind, told = settled(chart_of(loop), directions, patience)
    return (("loop safe", loop), told) if kind == "safe" else None


def certify_run(loop, state, rows):
    """The run breaks the loop; None."""
    unsafe = first_unsafe_of(loop, run(loop, state, rows))
    return None if unsafe is None else (("loop broken", loop), (state, rows[:unsafe]))
