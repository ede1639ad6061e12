"""Charts: straight cases from place to place, their standings, steps and runs."""

from safehelms.errors import InvalidChart, InvalidNumber, InvalidStanding, InvalidSteps
from safehelms.exact import is_fraction, is_index, is_tuple_of, is_whole_from, product_of, total
from safehelms.lots import is_inside, is_lot
from safehelms.rows import check_row, is_row_of


def is_chart(value):
    """Whether a value, whatever it is, is a chart."""
    if not is_tuple_of(value, 5, 5):
        return False
    size, coming, starts, cases, safes = value
    if not is_whole_from(size, 1, 8) or not is_whole_from(coming, 0, 6) or size + coming > 12:
        return False
    if not is_tuple_of(starts, 1, 12) or not is_tuple_of(cases, 0, 120) or not is_tuple_of(safes, 1, 12):
        return False
    places = len(safes)
    return (all(is_start(size, places, start) for start in starts)
            and all(is_case(size, coming, places, case) for case in cases)
            and all(is_small_lot(size, safe) for safe in safes))


def is_small_lot(size, value):
    """Whether a value is a lot of this size as charts and tables have them."""
    return is_lot(value) and value[0] == size and len(value[1]) <= 40


def is_start(size, places, value):
    """Whether a value is a pair of a place and a lot of states."""
    return is_tuple_of(value, 2, 2) and is_index(value[0], places) and is_small_lot(size, value[1])


def is_case(size, coming, places, value):
    """Whether a value is a case (FROM, GUARD, MAP, TO)."""
    if not is_tuple_of(value, 4, 4) or not is_index(value[0], places) or not is_index(value[3], places):
        return False
    return is_small_lot(size + coming, value[1]) and is_map(size, coming, value[2])


def is_map(size, coming, value):
    """Whether a value is a tuple of a pair (ROW, NUMBER) for each number of a state."""
    return is_tuple_of(value, size, size) and all(is_move(size + coming, move) for move in value)


def is_move(width, value):
    """Whether a value is a pair of a row of this width and a fraction."""
    return is_tuple_of(value, 2, 2) and is_row_of(width, value[0]) and is_fraction(value[1])


def step(chart, standing, case, comes):
    """The standing to which the case leads; None if it does not."""
    check_chart(chart)
    check_standing(chart, standing)
    if not is_index(case, len(chart[3])):
        raise InvalidNumber(case)
    check_row(chart[1], comes)
    return led_on(chart[3][case], standing, comes)


def led_on(case, standing, comes):
    """The standing to which the case, told itself, leads; None."""
    start, guard, moves, goal = case
    numbers = standing[1] + comes
    if standing[0] != start or not is_inside(guard, numbers):
        return None
    return (goal, tuple([total(product_of(row, numbers), number) for row, number in moves]))


def is_safe_standing(chart, standing):
    """Whether the standing's state lies in the lot of SAFES of its place."""
    check_chart(chart)
    check_standing(chart, standing)
    return is_inside(chart[4][standing[0]], standing[1])


def run_of(chart, start, state, steps):
    """The tuple of all standings of a run, the first one too; None if it is no run."""
    check_chart(chart)
    if not is_index(start, len(chart[2])):
        raise InvalidNumber(start)
    check_row(chart[0], state)
    check_steps(chart, steps)
    place, lot = chart[2][start]
    if not is_inside(lot, state):
        return None
    standings = [(place, state)]
    for case, comes in steps:
        standing = led_on(chart[3][case], standings[-1], comes)
        if standing is None:
            return None
        standings.append(standing)
    return tuple(standings)


def check_chart(chart):
    """Raise InvalidChart for no chart."""
    if not is_chart(chart):
        raise InvalidChart(chart)


def check_standing(chart, standing):
    """Raise InvalidStanding for no pair of a place and a state."""
    if not is_tuple_of(standing, 2, 2) or not is_index(standing[0], len(chart[4])):
        raise InvalidStanding(standing)
    if not is_row_of(chart[0], standing[1]):
        raise InvalidStanding(standing)


def check_steps(chart, steps):
    """Raise InvalidSteps for what is no tuple of pairs (CASE, COMES)."""
    if not is_tuple_of(steps, 0, 60):
        raise InvalidSteps(None)
    for index, pair in enumerate(steps):
        if not is_tuple_of(pair, 2, 2) or not is_index(pair[0], len(chart[3])) or not is_row_of(chart[1], pair[1]):
            raise InvalidSteps(index)
