"""Lots by rows: rows of fractions that meet wishes, what is so for all of them, and papers for it."""

from safehelms.errors import InvalidFraction, InvalidLot, InvalidNumber, InvalidPairs, UnlikeSizes
from safehelms.exact import is_fraction, is_tuple_of, is_up_to, is_whole_from, opposite, product_of
from safehelms.papers import shows
from safehelms.rows import check_row, is_row_of, unit_row
from safehelms.seats import greatest_at, paper_at, point_at, seat_of


def is_lot(value):
    """Whether a value, whatever it is, is a lot."""
    if not is_tuple_of(value, 2, 2) or not is_whole_from(value[0], 1, 12) or not is_tuple_of(value[1], 0, 100):
        return False
    return all(is_wish(value[0], wish) for wish in value[1])


def is_wish(size, value):
    """Whether a value is a pair of a row of this size and a bound."""
    return is_tuple_of(value, 2, 2) and is_row_of(size, value[0]) and is_fraction(value[1])


def is_row(size, value):
    """Whether a value, whatever it is, is a row of `size` numbers."""
    if not is_whole_from(size, 1, 12):
        raise InvalidNumber(size)
    return is_row_of(size, value)


def lies_in(lot, point):
    """Whether the point lies in the lot."""
    check_lot(lot)
    check_row(lot[0], point)
    return is_inside(lot, point)


def is_inside(lot, point):
    """Whether the point lies in the lot, both of them right."""
    return all(is_up_to(product_of(row, point), bound) for row, bound in lot[1])


def point_of(lot):
    """Any row that lies in the lot; None."""
    check_lot(lot)
    return point_at(seat_of(lot))


def box_of(pairs):
    """The lot of the rows with each number from LOW up to HIGH of its pair."""
    check_pairs(pairs)
    size = len(pairs)
    wishes = []
    for place, (low, high) in enumerate(pairs):
        wishes.append((unit_row(size, place, 1), high))
        wishes.append((unit_row(size, place, -1), opposite(low)))
    return (size, tuple(wishes))


def both_of(lot, other):
    """The lot of the wishes of the one lot, and then of the other."""
    check_two(lot, other)
    return (lot[0], lot[1] + other[1])


def bounds(lot, row, bound):
    """Whether row . z is up to the bound for all z in the lot."""
    return paper_of(lot, row, bound) is not None


def paper_of(lot, row, bound):
    """Any paper that row . z is up to the bound for all z in the lot; None."""
    check_wished(lot, row, bound)
    return paper_at(seat_of(lot), row, bound)


def is_paper(lot, row, bound, paper):
    """Whether a value, whatever it is, is a paper for the row and the bound beside the lot."""
    check_wished(lot, row, bound)
    return shows(lot, row, bound, paper)


def greatest(lot, row):
    """How great row . z is over the lot: ("void", WEIGHTS), ("endless", POINT, RAY), ("greatest", NUMBER, ..)."""
    check_lot(lot)
    check_row(lot[0], row)
    return greatest_at(seat_of(lot), row)


def is_within(lot, other):
    """Whether each row that lies in the lot lies in the other one."""
    check_two(lot, other)
    seat = seat_of(lot)
    return all(paper_at(seat, row, bound) is not None for row, bound in other[1])


def check_lot(lot):
    """Raise InvalidLot for no lot."""
    if not is_lot(lot):
        raise InvalidLot(lot)


def check_wished(lot, row, bound):
    """Raise the error of the first one that is wrong."""
    check_lot(lot)
    check_row(lot[0], row)
    if not is_fraction(bound):
        raise InvalidFraction(bound)


def check_two(lot, other):
    """Raise the error of two lots that are none, or of unlike sizes."""
    check_lot(lot)
    check_lot(other)
    if lot[0] != other[0]:
        raise UnlikeSizes()


def check_pairs(pairs):
    """Raise InvalidPairs for what is no tuple of pairs (LOW, HIGH)."""
    if not is_tuple_of(pairs, 1, 12):
        raise InvalidPairs(None)
    for index, pair in enumerate(pairs):
        if not is_row_of(2, pair) or not is_up_to(pair[0], pair[1]):
            raise InvalidPairs(index)
