"""Rows of fractions: whether a value is one, and unit rows."""

from safehelms.errors import InvalidRow
from safehelms.exact import is_fraction


def is_row_of(size, value):
    """Whether a value is a row of `size` fractions, () for the size 0."""
    if not isinstance(value, tuple) or len(value) != size:
        return False
    return all(is_fraction(number) for number in value)


def check_row(size, row):
    """Raise InvalidRow for what is no row of `size` fractions."""
    if not isinstance(row, tuple) or len(row) != size:
        raise InvalidRow(None)
    for index, number in enumerate(row):
        if not is_fraction(number):
            raise InvalidRow(index)


def unit_row(size, place, number):
    """The row with this number at the place, and 0 at all others."""
    return tuple([(number, 1) if at == place else (0, 1) for at in range(size)])
