"""Tables of a chart: lots that keep all its runs, their wishes, and papers that show them."""

from safehelms.charts import check_chart, is_small_lot
from safehelms.errors import InvalidTable
from safehelms.exact import is_tuple_of, opposite, product_of, total
from safehelms.papers import shows
from safehelms.seats import paper_at, seat_of


def is_table(chart, value):
    """Whether a value, whatever it is, is a table of the chart."""
    check_chart(chart)
    return has_lots(chart, value)


def has_lots(chart, value):
    """Whether a value is a tuple of a lot of states for each place."""
    places = len(chart[4])
    return is_tuple_of(value, places, places) and all(is_small_lot(chart[0], lot) for lot in value)


def wishes(chart, table):
    """The table's wishes, in order: a tuple of triples (LOT, ROW, BOUND)."""
    check_table(chart, table)
    return all_wishes(chart, table)


def all_wishes(chart, table):
    """The wishes of a right table: of the starts, of the cases, of what is safe."""
    told = []
    for place, lot in chart[2]:
        told.extend([(lot, row, bound) for row, bound in table[place][1]])
    for case in chart[3]:
        told.extend(case_wishes(chart, table, case))
    for lot, safe in zip(table, chart[4]):
        told.extend([(lot, row, bound) for row, bound in safe[1]])
    return tuple(told)


def case_wishes(chart, table, case):
    """The wishes that what the case leads to lies in the table's lot there."""
    start, guard, moves, goal = case
    behind = ((0, 1),) * chart[1]
    ahead = tuple([(row + behind, bound) for row, bound in table[start][1]])
    lot = (chart[0] + chart[1], ahead + guard[1])
    return [(lot, led_back(row, moves, lot[0]), bound_back(row, bound, moves)) for row, bound in table[goal][1]]


def led_back(row, moves, width):
    """The row over what stands ahead of the moves whose product is that of the row behind them, but for a number."""
    return tuple([product_of(row, [move[0][place] for move in moves]) for place in range(width)])


def bound_back(row, bound, moves):
    """The bound less what the moves' numbers bring to the row's product."""
    return total(bound, opposite(brought_by_moves(row, moves)))


def brought_by_moves(row, moves):
    """What the moves' numbers bring to the row's product."""
    return product_of(row, [move[1] for move in moves])


def papers_for(told):
    """A list of any paper for each of these wishes, None for one that is not met."""
    papers, last, seat = [], None, None
    for lot, row, bound in told:
        # Wishes of one lot stand side by side: its seat is sought once for them all.
        if lot != last:
            last, seat = lot, seat_of(lot)
        papers.append(paper_at(seat, row, bound))
    return papers


def open_wishes(chart, table):
    """The ascending tuple of the indexes of the wishes that are not met."""
    papers = papers_for(wishes(chart, table))
    return tuple([index for index, paper in enumerate(papers) if paper is None])


def table_paper(chart, table):
    """Any table paper with this table; None."""
    papers = papers_for(wishes(chart, table))
    return None if None in papers else (table, tuple(papers))


def takes(chart, paper):
    """Whether the judge takes a table paper, whatever it is."""
    check_chart(chart)
    if not is_tuple_of(paper, 2, 2) or not has_lots(chart, paper[0]):
        return False
    told = all_wishes(chart, paper[0])
    if not is_tuple_of(paper[1], len(told), len(told)):
        return False
    return all(shows(lot, row, bound, one) for (lot, row, bound), one in zip(told, paper[1]))


def check_table(chart, table):
    """Raise the error of the chart, or InvalidTable for no table of it."""
    check_chart(chart)
    if not has_lots(chart, table):
        raise InvalidTable(table)
