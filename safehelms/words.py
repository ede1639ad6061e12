"""The words of a width: the whole numbers that the cells of a machine hold."""

from safehelms.errors import InvalidNumber
from safehelms.exact import is_whole_from


def least_word(width):
    """The least word of the width."""
    return -(1 << (width - 1))


def greatest_word(width):
    """The greatest word of the width."""
    return (1 << (width - 1)) - 1


def is_word(width, value):
    """Whether a value is a word of the width."""
    return is_whole_from(value, least_word(width), greatest_word(width))


def wrapped_word(width, number):
    """The one word that is alike the number modulo 2 ** width."""
    return (number - least_word(width)) % (1 << width) + least_word(width)


def is_width(value):
    """Whether a value is a width of words."""
    return is_whole_from(value, 4, 32)


def check_width(width):
    """Raise InvalidNumber for no width."""
    if not is_width(width):
        raise InvalidNumber(width)
