"""Rows that break a chart: starts and steps, the last standing behind them not being safe."""

from safehelms.charts import check_chart, led_on
from safehelms.errors import InvalidNumber
from safehelms.exact import is_index, is_tuple_of, is_whole_from
from safehelms.lots import is_inside
from safehelms.rows import is_row_of
from safehelms.ways import begun_ways, broken_at_end, further_way


def is_breaking(chart, row):
    """Whether a value, whatever it is, is a breaking row of the chart."""
    check_chart(chart)
    if not is_tuple_of(row, 3, 3) or not is_index(row[0], len(chart[2])) or not isinstance(row[2], tuple):
        return False
    place, lot = chart[2][row[0]]
    if not is_row_of(chart[0], row[1]) or not is_inside(lot, row[1]):
        return False
    standing = (place, row[1])
    for pair in row[2]:
        standing = stepped(chart, standing, pair)
        if standing is None:
            return False
    return not is_inside(chart[4][standing[0]], standing[1])


def stepped(chart, standing, pair):
    """The standing behind a step by what is a pair (CASE, COMES); None if it is none, or no step leads on."""
    if not is_tuple_of(pair, 2, 2) or not is_index(pair[0], len(chart[3])) or not is_row_of(chart[1], pair[1]):
        return None
    return led_on(chart[3][pair[0]], standing, pair[1])


def breaking_row(chart, depth):
    """Any breaking row of up to so many steps; None."""
    check_chart(chart)
    check_depth(depth)
    ways = begun_ways(chart)
    # Short rows are sought ahead of longer ones, so that no long way hides what is near; ways are not kept, as they
    # may be many.
    for many in range(depth + 1):
        for way in ways:
            row = broken_behind(chart, way, many)
            if row is not None:
                return row
    return None


def broken_behind(chart, way, many):
    """A breaking row that goes this way and just so many steps more; None."""
    if many == 0:
        return broken_at_end(chart, way)
    for index, case in enumerate(chart[3]):
        if case[0] == way.place:
            further = further_way(chart, way, index)
            row = None if further is None else broken_behind(chart, further, many - 1)
            if row is not None:
                return row
    return None


def check_depth(depth):
    """Raise InvalidNumber for no whole number from 0 to 6."""
    if not is_whole_from(depth, 0, 6):
        raise InvalidNumber(depth)
