"""Tables found by directions, turn by turn, and whether they settle a chart."""

from safehelms.charts import check_chart
from safehelms.errors import InvalidDirections, InvalidNumber
from safehelms.exact import is_tuple_of, is_up_to, is_whole_from, total
from safehelms.rows import is_row_of
from safehelms.seats import greatest_at, seat_of
from safehelms.tables import all_wishes, brought_by_moves, led_back, papers_for


class Stand:
    """What stands at a place reached: for each direction its number or None, and how often the number rose."""

    def __init__(self, numbers):
        self.numbers = numbers
        self.rises = [0] * len(numbers)


def table_by(chart, directions, patience):
    """The table that is found by the directions."""
    check_search(chart, directions, patience)
    return found_table(chart, directions, patience)


def settled(chart, directions, patience):
    """("safe", PAPER) if all wishes of the table by the directions are met, else ("open", INDEX), the least one."""
    check_search(chart, directions, patience)
    table = found_table(chart, directions, patience)
    papers = papers_for(all_wishes(chart, table))
    if None in papers:
        return ("open", papers.index(None))
    return ("safe", (table, tuple(papers)))


def found_table(chart, directions, patience):
    """The table by directions of a chart, all of them right."""
    stands = begun_stands(chart, directions)
    changed = [stand is not None for stand in stands]
    while True in changed:
        brought = brought_to(chart, directions, stands, changed)
        changed = []
        for place, numbers in enumerate(brought):
            changed.append(numbers is not None and take_in(stands, place, numbers, patience))
    return tuple([lot_of(chart[0], directions, stand) for stand in stands])


def begun_stands(chart, directions):
    """The list of what stands at each place at first; None for those that are not reached."""
    found = [None] * len(chart[4])
    for place, lot in chart[2]:
        found[place] = joined_numbers(found[place], greatest_numbers(lot, directions))
    return [None if numbers is None else Stand(numbers) for numbers in found]


def greatest_numbers(lot, rows):
    """The list of the rows' greatest numbers over the lot, None for one that has none; None for a void lot."""
    seat = seat_of(lot)
    return None if seat.short is not None else [greatest_number(seat, row) for row in rows]


def greatest_number(seat, row):
    """The row's greatest number over a seat's lot that is not void; None."""
    told = greatest_at(seat, row)
    return told[1] if told[0] == "greatest" else None


def joined_numbers(numbers, others):
    """The greater number of each two, None where one of them has none; None in the place of a list leaves the other."""
    if numbers is None or others is None:
        return others if numbers is None else numbers
    return [greater(one, other) for one, other in zip(numbers, others)]


def greater(one, other):
    """The greater one of two fractions; None if one of them is None."""
    if one is None or other is None:
        return None
    return other if is_up_to(one, other) else one


def brought_to(chart, directions, stands, changed):
    """The list of the numbers that a turn's cases bring to each place; None where none leads.

    Where nothing changed in the turn ahead a case brings what it brought then, which can change nothing more.
    """
    brought = [None] * len(stands)
    for case in chart[3]:
        if changed[case[0]]:
            numbers = brought_by(chart, case, directions, stands)
            brought[case[3]] = joined_numbers(brought[case[3]], numbers)
    return brought


def brought_by(chart, case, directions, stands):
    """The list of the directions' greatest numbers behind the case, as greatest_numbers tells them."""
    start, (width, wishes), moves, goal = case
    behind = ((0, 1),) * chart[1]
    ahead = tuple([(row + behind, bound) for row, bound in wishes_at(directions, stands[start])])
    seat = seat_of((width, ahead + wishes))
    if seat.short is not None:
        return None
    numbers = []
    for k, row in enumerate(directions):
        # A direction that has no number any more needs none.
        if stands[goal] is not None and stands[goal].numbers[k] is None:
            numbers.append(None)
        else:
            number = greatest_number(seat, led_back(row, moves, width))
            numbers.append(None if number is None else total(number, brought_by_moves(row, moves)))
    return numbers


def take_in(stands, place, brought, patience):
    """Take the numbers that were brought to the place; whether something changed there."""
    stand = stands[place]
    if stand is None:
        stands[place] = Stand(brought)
        return True
    changed = False
    for k, number in enumerate(brought):
        old = stand.numbers[k]
        if old is None or (number is not None and is_up_to(number, old)):
            continue
        changed = True
        stand.rises[k] += 1
        stand.numbers[k] = None if stand.rises[k] > patience else number
    return changed


def lot_of(size, directions, stand):
    """The lot of what stands at a place; where nothing stands, a lot in which nothing lies."""
    if stand is None:
        return (size, ((((0, 1),) * size, (-1, 1)),))
    return (size, wishes_at(directions, stand))


def wishes_at(directions, stand):
    """The directions that have a number, as wishes, in order."""
    return tuple([(row, number) for row, number in zip(directions, stand.numbers) if number is not None])


def check_search(chart, directions, patience):
    """Raise the error of the first one that is wrong."""
    check_chart(chart)
    if not is_tuple_of(directions, 1, 24):
        raise InvalidDirections(None)
    for index, row in enumerate(directions):
        if not is_row_of(chart[0], row):
            raise InvalidDirections(index)
    if not is_whole_from(patience, 0, 6):
        raise InvalidNumber(patience)
