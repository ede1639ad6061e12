"""Forms: sums of whole factors times numbers, and a constant."""

from safehelms.exact import is_tuple_of, is_whole


def is_form(value):
    """Whether a value is a pair of a tuple of up to 12 whole numbers and a whole number."""
    if not is_tuple_of(value, 2, 2) or not is_tuple_of(value[0], 0, 12):
        return False
    return all(is_whole(factor) for factor in value[0]) and is_whole(value[1])


def constant_form(many, number):
    """The form over so many numbers that is this one, whatever they are."""
    return ((0,) * many, number)


def unit_form(many, place):
    """The form over so many numbers that is the one at the place."""
    return (tuple([1 if at == place else 0 for at in range(many)]), 0)


def form_sum(one, other):
    """The sum of two forms."""
    return (tuple([first + second for first, second in zip(one[0], other[0])]), one[1] + other[1])


def form_times(number, form):
    """The form times a number."""
    return (tuple([number * factor for factor in form[0]]), number * form[1])


def form_less(one, other, number):
    """The one form less the other one, and less the number."""
    difference = form_sum(one, form_times(-1, other))
    return (difference[0], difference[1] - number)


def form_worth(form, numbers):
    """The sum of the factors times the numbers, and the constant."""
    worth = form[1]
    for factor, number in zip(form[0], numbers):
        worth += factor * number
    return worth
