"""What is right in a plant, part by part."""

from safehelms.exact import is_tuple_of, is_up_to, is_whole, is_whole_from, total
from safehelms.lots import is_wish
from safehelms.rows import is_row_of


def is_right_plant(value):
    """Whether a value is a plant."""
    if not is_tuple_of(value, 7, 7) or not is_tuple_of(value[1], 1, 3):
        return False
    modes, noise, start, sensors, delay, drive, safe = value
    size = len(noise)
    if not is_tuple_of(modes, 1, 3) or not is_tuple_of(start, size, size) or not is_tuple_of(sensors, 1, 2):
        return False
    return (all(is_mode(size, mode) for mode in modes)
            and all(is_span(pair) for pair in noise + start)
            and all(is_sensor(size, sensor) for sensor in sensors)
            and is_whole_from(delay, 0, 2) and is_drive(drive)
            and is_tuple_of(safe, 1, 6) and all(is_wish(size, wish) for wish in safe))


def is_mode(size, value):
    """Whether a value is a triple (A, b, c) of rows and two rows."""
    if not is_tuple_of(value, 3, 3) or not is_tuple_of(value[0], size, size):
        return False
    return all(is_row_of(size, row) for row in value[0] + value[1:])


def is_span(value):
    """Whether a value is a pair of fractions (LOW, HIGH), LOW up to HIGH."""
    return is_row_of(2, value) and is_up_to(value[0], value[1])


def is_sensor(size, value):
    """Whether a value is a tuple (ROW, LOW, HIGH, FIRST), HIGH from LOW + 1 on."""
    if not is_tuple_of(value, 4, 4) or not is_row_of(size, value[0]) or not is_row_of(2, value[1:3]):
        return False
    return is_up_to(total(value[1], (1, 1)), value[2]) and is_whole(value[3])


def is_drive(value):
    """Whether a value is a tuple (LEAST, MOST, REST, HOLDS, CUTS)."""
    if not is_tuple_of(value, 5, 5) or not all(is_whole(number) for number in value):
        return False
    least, most, rest, holds, cuts = value
    return least <= rest <= most and 0 <= holds <= 3 and 0 <= cuts <= 1
