"""Ways through a chart: a start and cases that fit one behind the other, and whether a run can go them.

All that stands on a way is told by its numbers: those of the start's state and, behind them, those that come, step
by step. What the start and the guards wish of them is a lot, the seat of which grows with each case.
"""

from safehelms.exact import is_up_to, opposite, product_of, total
from safehelms.rows import unit_row
from safehelms.seats import greatest_at, seat_beside, seat_of
from safehelms.tables import bound_back, brought_by_moves, led_back


class Way:
    """A way that some run goes: its start, its cases, the place at its end, and the state there by its numbers."""

    def __init__(self, start, cases, place, seat, state):
        self.start = start
        self.cases = cases
        self.place = place
        self.seat = seat
        self.state = state


def begun_ways(chart):
    """The list of the ways without cases."""
    ways = []
    size = chart[0]
    state = [(unit_row(size, at, 1), (0, 1)) for at in range(size)]
    for index, (place, lot) in enumerate(chart[2]):
        seat = seat_of(lot)
        if seat.short is None:
            ways.append(Way(index, (), place, seat, state))
    return ways


def further_way(chart, way, index):
    """The way with the case of this index, which begins where it ends; None if no run goes it."""
    coming, (_, guard, moves, goal) = chart[1], chart[3][index]
    size = way.seat.size + coming
    told = [(row + ((0, 1),) * coming, number) for row, number in way.state]
    told.extend([(unit_row(size, way.seat.size + k, 1), (0, 1)) for k in range(coming)])
    wishes = [(led_back(row, told, size), bound_back(row, bound, told)) for row, bound in guard[1]]
    seat = seat_beside(way.seat, coming, wishes)
    if seat.short is not None:
        return None
    state = [(led_back(row, told, size), total(number, brought_by_moves(row, told))) for row, number in moves]
    return Way(way.start, way.cases + (index,), goal, seat, state)


def broken_at_end(chart, way):
    """A breaking row (START, STATE, STEPS) that goes this way; None."""
    for row, bound in chart[4][way.place][1]:
        limit = bound_back(row, bound, way.state)
        numbers = point_above(way.seat, led_back(row, way.state, way.seat.size), limit)
        if numbers is not None:
            return breaking_by(chart, way, numbers)
    return None


def point_above(seat, row, limit):
    """A point of the seat's lot, which is not void, at which the row's product is above the limit; None."""
    told = greatest_at(seat, row)
    if told[0] == "greatest":
        return None if is_up_to(told[1], limit) else told[2]
    _, point, ray = told
    if not is_up_to(product_of(row, point), limit):
        return point
    # As far along the ray as the limit asks for, and once more.
    lack = total(limit, opposite(product_of(row, point)))
    gain = product_of(row, ray)
    times = lack[0] * gain[1] // (lack[1] * gain[0]) + 1
    return tuple([total(number, (times * part[0], part[1])) for number, part in zip(point, ray)])


def breaking_by(chart, way, numbers):
    """The row (START, STATE, STEPS) of the way with these numbers."""
    size, coming = chart[0], chart[1]
    steps = []
    for at, case in enumerate(way.cases):
        begin = size + at * coming
        steps.append((case, numbers[begin:begin + coming]))
    return (way.start, numbers[:size], tuple(steps))
