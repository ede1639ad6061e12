"""Plants: numbers that go on in modes, with noise, read by sensors and driven by whole numbers."""

from safehelms.errors import InvalidNumber, InvalidPlant, InvalidText
from safehelms.exact import is_index, is_up_to, is_whole, product_of, total
from safehelms.figures import rows_in, text_by
from safehelms.parts import is_right_plant
from safehelms.plantrows import read_plant, rows_of_plant
from safehelms.rows import check_row


def is_plant(value):
    """Whether a value, whatever it is, is a plant."""
    return is_right_plant(value)


def is_safe_row(plant, row):
    """Whether the row is safe: up to the bound by each pair of SAFE."""
    check_plant_row(plant, row)
    return is_safe_at(plant, row)


def is_safe_at(plant, row):
    """Whether the row is safe, both of them right."""
    return all(is_up_to(product_of(wish, row), bound) for wish, bound in plant[6])


def moved(plant, mode, row, drive, noise):
    """The row to which the plant goes on in this mode, driven by this number, with this noise."""
    check_plant(plant)
    if not is_index(mode, len(plant[0])):
        raise InvalidNumber(mode)
    check_row(len(plant[1]), row)
    if not is_whole(drive):
        raise InvalidNumber(drive)
    check_row(len(plant[1]), noise)
    return moved_on(plant[0][mode], row, drive, noise)


def moved_on(mode, row, drive, noise):
    """A x + b u + c + w, all of them right."""
    led = []
    for factors, driven, more, stray in zip(mode[0], mode[1], mode[2], noise):
        led.append(total(product_of(factors + (driven,), row + ((drive, 1),)), total(more, stray)))
    return tuple(led)


def readings_of(plant, row):
    """For each sensor the pair of its least and its greatest reading of the row."""
    check_plant_row(plant, row)
    return readings_at(plant, row)


def readings_at(plant, row):
    """The pairs of the least and the greatest readings, both of them right."""
    pairs = []
    for sensor, low, high, _ in plant[3]:
        seen = product_of(sensor, row)
        least, most = total(seen, low), total(seen, high)
        pairs.append((-(-least[0] // least[1]), most[0] // most[1]))
    return tuple(pairs)


def within_drive(plant, command):
    """The command brought within LEAST and MOST."""
    check_plant(plant)
    if not is_whole(command):
        raise InvalidNumber(command)
    return driven_by(plant, command)


def driven_by(plant, command):
    """The command brought within LEAST and MOST, both of them right."""
    least, most = plant[5][:2]
    return min(max(command, least), most)


def plant_text(plant):
    """The plant's text."""
    check_plant(plant)
    return text_by(rows_of_plant(plant))


def plant_of(text):
    """The plant of the text."""
    if not isinstance(text, str):
        raise InvalidText(None)
    return read_plant(rows_in(text))


def check_plant(plant):
    """Raise InvalidPlant for no plant."""
    if not is_right_plant(plant):
        raise InvalidPlant(plant)


def check_plant_row(plant, row):
    """Raise the error of the first one that is wrong."""
    check_plant(plant)
    check_row(len(plant[1]), row)
