"""Whole numbers, and fractions as pairs of them, in lowest terms."""

from math import gcd


def is_whole(value):
    """Whether a value is a whole number; True and False are none."""
    return isinstance(value, int) and not isinstance(value, bool)


def is_whole_from(value, low, high):
    """Whether a value is a whole number from `low` up to `high`."""
    return is_whole(value) and low <= value <= high


def is_index(value, many):
    """Whether a value is an index of `many` things."""
    return is_whole(value) and 0 <= value < many


def is_tuple_of(value, least, most):
    """Whether a value is a tuple of at least `least` and at most `most` parts."""
    return isinstance(value, tuple) and least <= len(value) <= most


def is_fraction(value):
    """Whether a value is a pair of whole numbers in lowest terms, the second one above 0."""
    if not is_tuple_of(value, 2, 2) or not is_whole(value[0]) or not is_whole(value[1]):
        return False
    return value[1] > 0 and gcd(value[0], value[1]) == 1


def fraction(top, bottom):
    """The fraction top / bottom; `bottom` is above 0."""
    common = gcd(top, bottom)
    return (top // common, bottom // common)


def opposite(number):
    """The fraction times - 1."""
    return (-number[0], number[1])


def total(one, other):
    """The sum of two fractions."""
    return fraction(one[0] * other[1] + other[0] * one[1], one[1] * other[1])


def is_up_to(number, limit):
    """Whether a fraction is up to another one."""
    return number[0] * limit[1] <= limit[0] * number[1]


def product_of(row, other):
    """The sum of the products of two rows of fractions, place by place."""
    top, bottom = 0, 1
    for (first, under), (second, below) in zip(row, other):
        if first != 0 and second != 0:
            share = under * below
            top, bottom = top * share + first * second * bottom, bottom * share
    return fraction(top, bottom)
