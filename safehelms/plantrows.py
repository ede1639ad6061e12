"""The rows of texts of plants, written and read one by one."""

from safehelms.errors import InvalidText
from safehelms.figures import fractions_in, row_of, wholes_in, words_of
from safehelms.lots import is_wish
from safehelms.parts import is_drive, is_mode, is_sensor, is_span


class RowReader:
    """The rows of a text, each as the list of its words, the index of the one that comes next, and the plant's size."""

    def __init__(self, rows):
        self.rows = [row.split(" ") for row in rows]
        self.at = 0
        self.size = 0

    def comes(self, word):
        """Whether a row comes next that begins with the word."""
        return self.at < len(self.rows) and self.rows[self.at][0] == word

    def behind(self, word):
        """The words behind this one of the row that comes next."""
        if not self.comes(word):
            raise InvalidText(self.at)
        return self.rows[self.at][1:]

    def accepted(self, value, is_right):
        """The value that the row that comes next told; go on behind it."""
        if not is_right:
            raise InvalidText(self.at)
        self.at += 1
        return value


def rows_of_plant(plant):
    """The list of the rows of the plant's text."""
    modes, noise, start, sensors, delay, drive, safe = plant
    rows = [row_of(["numbers", len(noise)])]
    rows.extend([row_of(["mode"] + words_of_mode(mode)) for mode in modes])
    rows.extend([row_of(["noise"] + words_of(pair)) for pair in noise])
    rows.extend([row_of(["start"] + words_of(pair)) for pair in start])
    rows.extend([row_of(["sensor"] + words_of(row + (low, high)) + [first]) for row, low, high, first in sensors])
    rows.append(row_of(["delay", delay]))
    rows.append(row_of(("drive",) + drive))
    rows.extend([row_of(["safe"] + words_of(row + (bound,))) for row, bound in safe])
    return rows


def words_of_mode(mode):
    """The list of the words of a mode, those of each number with : ahead."""
    words = []
    for row, driven, more in zip(mode[0], mode[1], mode[2]):
        words.extend([":"] + words_of(row + (driven, more)))
    return words


def read_plant(rows):
    """The plant that these rows tell."""
    reader = RowReader(rows)
    size = wholes_in(reader.behind("numbers"))
    reader.size = reader.accepted(size, size in ((1,), (2,), (3,)))[0]
    modes = read_rows(reader, "mode", read_mode, 1, 3)
    noise = read_rows(reader, "noise", read_span, reader.size, reader.size)
    start = read_rows(reader, "start", read_span, reader.size, reader.size)
    sensors = read_rows(reader, "sensor", read_sensor, 1, 2)
    delay = wholes_in(reader.behind("delay"))
    delay = reader.accepted(delay, delay in ((0,), (1,), (2,)))[0]
    drive = wholes_in(reader.behind("drive"))
    drive = reader.accepted(drive, is_drive(drive))
    safe = read_rows(reader, "safe", read_wish, 1, 6)
    if reader.at < len(reader.rows):
        raise InvalidText(reader.at)
    return (modes, noise, start, sensors, delay, drive, safe)


def read_rows(reader, word, read, least, most):
    """The tuple of what the rows tell that begin with the word, at least and at most so many."""
    told = []
    while len(told) < least or (len(told) < most and reader.comes(word)):
        told.append(read(reader, reader.behind(word)))
    return tuple(told)


def read_mode(reader, words):
    """The mode that these words tell."""
    rows, many = [], reader.size + 3
    for begin in range(0, len(words), many):
        numbers = fractions_in(words[begin + 1:begin + many])
        if words[begin] == ":" and numbers is not None and len(numbers) == reader.size + 2:
            rows.append(numbers)
        else:
            rows.append(None)
    if None in rows:
        raise InvalidText(reader.at)
    mode = (tuple([row[:-2] for row in rows]), tuple([row[-2] for row in rows]), tuple([row[-1] for row in rows]))
    return reader.accepted(mode, is_mode(reader.size, mode))


def read_span(reader, words):
    """The pair (LOW, HIGH) that these words tell."""
    pair = fractions_in(words)
    return reader.accepted(pair, is_span(pair))


def read_sensor(reader, words):
    """The sensor that these words tell."""
    numbers, last = fractions_in(words[:-1]), wholes_in(words[-1:])
    if numbers is None or last is None:
        raise InvalidText(reader.at)
    sensor = (numbers[:-2],) + numbers[-2:] + last
    return reader.accepted(sensor, is_sensor(reader.size, sensor))


def read_wish(reader, words):
    """The pair (ROW, BOUND) that these words tell."""
    numbers = fractions_in(words)
    wish = None if numbers is None or numbers == () else (numbers[:-1], numbers[-1])
    return reader.accepted(wish, is_wish(reader.size, wish))
