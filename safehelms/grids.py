"""Wishes as grids of whole numbers, turned until a point, a ray or weights can be read off.

A grid tells some unknowns, the inner ones, by the others, the outer ones. Each unknown has a label:
a label below `many` is what the wish of this index leaves, its bound less its row . z, which is from 0 on;
the label many + j is number j of z, which may be anything; one label more is the goal, a product to be made great.
At the seat of a grid all its outer unknowns are 0.
"""


class Grid:
    """Inner unknown k is the sum of rows[k] times the outer ones, and its last number, divided by `share`, above 0."""

    def __init__(self, many, share, inner, outer, rows):
        self.many = many
        self.share = share
        self.inner = inner
        self.outer = outer
        self.rows = rows


def grid_of(size, wishes):
    """The grid that tells what wishes (NUMBERS, BOUND), all whole, leave by the numbers of z."""
    many = len(wishes)
    rows = [[-number for number in numbers] + [bound] for numbers, bound in wishes]
    return Grid(many, 1, list(range(many)), list(range(many, many + size)), rows)


def turned(grid, at, column):
    """The grid with the inner unknown `at` and the outer one of the column in each other's place."""
    axle = grid.rows[at]
    rows = [axle_row(row, column, grid.share) if k == at else led_row(row, axle, column, grid.share)
            for k, row in enumerate(grid.rows)]
    inner, outer = list(grid.inner), list(grid.outer)
    inner[at], outer[column] = grid.outer[column], grid.inner[at]
    return Grid(grid.many, abs(axle[column]), inner, outer, rows)


def axle_row(axle, column, share):
    """The row by which the grid is turned, told anew."""
    sign = 1 if axle[column] > 0 else -1
    row = [-sign * number for number in axle]
    row[column] = sign * share
    return row


def led_row(row, axle, column, share):
    """Another row, with what the axle tells in the place of the column's unknown."""
    heart = abs(axle[column])
    factor = row[column] if axle[column] > 0 else -row[column]
    if factor == 0 and heart == share:
        return row
    # The division leaves nothing over: all numbers of a grid are minors of the first one, and so is `share`.
    led = [(number * heart - factor * other) // share for number, other in zip(row, axle)]
    led[column] = factor
    return led


def led_in(grid):
    """The grid with all numbers of z inner ones, but those that change no wish beside the others."""
    for column in [k for k, label in enumerate(grid.outer) if label >= grid.many]:
        ways = [k for k, row in enumerate(grid.rows) if grid.inner[k] < grid.many and row[column] != 0]
        if ways:
            grid = turned(grid, ways[0], column)
    return grid


def seated(grid):
    """A pair: the grid turned, and None if all wishes are met at its seat, else a row that never can be from 0 on."""
    while True:
        at = least_short(grid)
        if at is None:
            return (grid, None)
        column = least_rising(grid, at)
        if column is None:
            return (grid, at)
        grid = turned(grid, at, column)


# Of several ways the least label is taken in all that follows: so no grid comes back (Bland 1977).

def least_short(grid):
    """The row of the least wish that is not met at the seat; None."""
    ways = [(label, k) for k, label in enumerate(grid.inner) if label < grid.many and grid.rows[k][-1] < 0]
    return min(ways)[1] if ways else None


def least_rising(grid, at):
    """The column of the least wish that makes the unknown of this row grow; None."""
    row = grid.rows[at]
    ways = [(label, k) for k, label in enumerate(grid.outer) if label < grid.many and row[k] > 0]
    return min(ways)[1] if ways else None


def told_row(grid, numbers):
    """The sum of these whole numbers times those of z, told by the outer unknowns."""
    told = [0] * (len(grid.outer) + 1)
    for k, label in enumerate(grid.inner):
        if label >= grid.many and numbers[label - grid.many] != 0:
            told = [old + numbers[label - grid.many] * new for old, new in zip(told, grid.rows[k])]
    for k, label in enumerate(grid.outer):
        if label >= grid.many:
            told[k] += numbers[label - grid.many] * grid.share
    return told


def left_row(grid, numbers, bound):
    """What a wish (NUMBERS, BOUND) leaves, told by the outer unknowns."""
    left = [-number for number in told_row(grid, numbers)]
    left[-1] += bound * grid.share
    return left


def with_goal(grid, numbers):
    """The grid with one more row: the goal, the sum of these whole numbers times those of z."""
    last = grid.many + len(numbers)
    return Grid(grid.many, grid.share, grid.inner + [last], grid.outer, grid.rows + [told_row(grid, numbers)])


def widened(grid, coming, wishes):
    """The grid with so many more numbers of z, behind those it has, and these wishes (NUMBERS, BOUND) more."""
    more, size = len(wishes), len(grid.outer)
    many = grid.many + more
    inner = [label if label < grid.many else label + more for label in grid.inner]
    outer = [label if label < grid.many else label + more for label in grid.outer]
    outer.extend([many + size + k for k in range(coming)])
    rows = [row[:-1] + [0] * coming + row[-1:] for row in grid.rows]
    wide = Grid(many, grid.share, inner, outer, rows)
    left = [left_row(wide, numbers, bound) for numbers, bound in wishes]
    return Grid(many, grid.share, inner + list(range(grid.many, many)), outer, rows + left)


def grown(grid):
    """A pair: the grid turned, and None if the goal is greatest at its seat, else a column along which it has no end.

    The goal is the last row, and all wishes are met at the seat.
    """
    while True:
        column = least_growing(grid)
        if column is None:
            return (grid, None)
        at = first_met(grid, column)
        if at is None:
            return (grid, column)
        grid = turned(grid, at, column)


def least_growing(grid):
    """The column of the least outer unknown that makes the goal grow; None."""
    goal = grid.rows[-1]
    ways = [(label, k) for k, label in enumerate(grid.outer) if goal[k] > 0 or (goal[k] < 0 and label >= grid.many)]
    return min(ways)[1] if ways else None


def first_met(grid, column):
    """The row of the wish that is the first one to leave 0 along the column, of the least label of several; None."""
    best = None
    for k, row in enumerate(grid.rows):
        if grid.inner[k] < grid.many and row[column] < 0:
            if best is None or is_met_ahead(grid, column, k, best):
                best = k
    return best


def is_met_ahead(grid, column, one, other):
    """Whether the wish of row `one` is met ahead of that of row `other`, or beside it with a lower label."""
    first, second = grid.rows[one], grid.rows[other]
    left, right = first[-1] * second[column], second[-1] * first[column]
    if left == right:
        return grid.inner[one] < grid.inner[other]
    # Both numbers of the column are below 0, so what is compared turns round.
    return left > right
