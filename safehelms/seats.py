"""The seat of a lot: what is found once for it, and then serves for all rows that are asked of it."""

from math import lcm

from safehelms.exact import fraction, is_up_to
from safehelms.grids import grid_of, grown, led_in, seated, widened, with_goal


class Seat:
    """A lot's grid, the scales that made its wishes whole, and the row of the grid by which it is void, or None."""

    def __init__(self, size, scales, grid, short):
        self.size = size
        self.scales = scales
        self.grid = grid
        self.short = short


def seat_of(lot):
    """The seat of a lot."""
    size, wishes = lot
    scales, whole = whole_wishes(wishes)
    grid, short = seated(led_in(grid_of(size, whole)))
    return Seat(size, scales, grid, short)


def seat_beside(seat, coming, wishes):
    """The seat of the lot with so many more numbers and these wishes more, by that of a lot that is not void."""
    scales, whole = whole_wishes(wishes)
    grid, short = seated(led_in(widened(seat.grid, coming, whole)))
    return Seat(seat.size + coming, seat.scales + scales, grid, short)


def whole_wishes(wishes):
    """A pair of lists: the scales that make the wishes whole, and the wishes made whole."""
    scales = [scale_of(row + (bound,)) for row, bound in wishes]
    whole = [(scaled(row, scale), scaled((bound,), scale)[0]) for (row, bound), scale in zip(wishes, scales)]
    return (scales, whole)


def scale_of(row):
    """The least number from 1 on that makes all fractions of the row whole."""
    scale = 1
    for number in row:
        scale = lcm(scale, number[1])
    return scale


def scaled(row, scale):
    """The fractions times the scale, which makes them whole."""
    return [top * (scale // bottom) for top, bottom in row]


def void_weights(seat):
    """The weights of a paper of the kind "void", for the seat of a lot that is void."""
    grid = seat.grid
    weights = outer_weights(seat.scales, grid, grid.rows[seat.short], grid.share)
    label = grid.inner[seat.short]
    weights[label] = (seat.scales[label], 1)
    return tuple(weights)


def outer_weights(scales, grid, row, share):
    """The weights with which the outer wishes stand in a row that no outer wish makes grow."""
    weights = [(0, 1)] * grid.many
    for k, label in enumerate(grid.outer):
        if label < grid.many:
            weights[label] = fraction(-row[k] * scales[label], share)
    return weights


def point_at(seat):
    """A row that lies in the lot; None if it is void."""
    return None if seat.short is not None else seat_point(seat.size, seat.grid)


def seat_point(size, grid):
    """The numbers of z at the grid's seat."""
    point = [(0, 1)] * size
    for k, label in enumerate(grid.inner):
        if grid.many <= label < grid.many + size:
            point[label - grid.many] = fraction(grid.rows[k][-1], grid.share)
    return tuple(point)


def ray_along(size, grid, column):
    """How the numbers of z change where the column's unknown makes the goal, the last row, grow."""
    sign = 1 if grid.rows[-1][column] > 0 else -1
    ray = [(0, 1)] * size
    for k, label in enumerate(grid.inner):
        if grid.many <= label < grid.many + size:
            ray[label - grid.many] = fraction(sign * grid.rows[k][column], grid.share)
    if grid.outer[column] >= grid.many:
        ray[grid.outer[column] - grid.many] = (sign, 1)
    return tuple(ray)


def greatest_at(seat, row):
    """What is told of the lot and the row: ("void", ..), ("endless", ..) or ("greatest", ..)."""
    if seat.short is not None:
        return ("void", void_weights(seat))
    scale = scale_of(row)
    grid, column = grown(with_goal(seat.grid, scaled(row, scale)))
    point = seat_point(seat.size, grid)
    if column is not None:
        return ("endless", point, ray_along(seat.size, grid, column))
    goal, share = grid.rows[-1], grid.share * scale
    weights = outer_weights(seat.scales, grid, goal, share)
    return ("greatest", fraction(goal[-1], share), point, tuple(weights))


def paper_at(seat, row, bound):
    """A paper for the row and the bound beside the seat's lot; None."""
    told = greatest_at(seat, row)
    if told[0] == "void":
        return told
    if told[0] == "greatest" and is_up_to(told[1], bound):
        return ("bound", told[3])
    return None
