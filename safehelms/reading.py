"""What stands in the text of a controller, read sign by sign."""

from safehelms.errors import InvalidText
from safehelms.figures import is_number
from safehelms.shapes import CONDITION_PARTS, STATEMENT_WORDS, SUM_PARTS, is_plain_name


class Reader:
    """Signs, and the index of the one that comes next."""

    def __init__(self, signs):
        self.signs = signs
        self.at = 0

    def ahead(self):
        """The sign that comes next; "", which is no sign, behind the last one."""
        return self.signs[self.at] if self.at < len(self.signs) else ""

    def taken(self):
        """The sign that comes next, and go on behind it."""
        sign = self.ahead()
        self.at += 1
        return sign


def read_controller(signs):
    """The tuple that a text with these signs tells, a controller or not."""
    reader = Reader(signs)
    read_exactly(reader, "word")
    width = read_number(reader)
    inputs = read_named_rows(reader, "in", 2)
    keeps = read_named_rows(reader, "keep", 4)
    read_exactly(reader, "out")
    out = read_numbers(reader, 2)
    phases = []
    while reader.ahead() == "phase":
        phases.append(read_phase(reader))
    if reader.at < len(signs):
        raise InvalidText(reader.at)
    return (width, inputs, keeps, out, tuple(phases))


def read_exactly(reader, word):
    """Go on behind this word."""
    if reader.ahead() != word:
        raise InvalidText(reader.at)
    reader.taken()


def read_number(reader):
    """The number that comes next."""
    if not is_number(reader.ahead()):
        raise InvalidText(reader.at)
    return int(reader.taken())


def read_name(reader):
    """The name that comes next."""
    if not is_plain_name(reader.ahead()):
        raise InvalidText(reader.at)
    return reader.taken()


def read_numbers(reader, many):
    """The tuple of so many numbers."""
    numbers = []
    for _ in range(many):
        numbers.append(read_number(reader))
    return tuple(numbers)


def read_named_rows(reader, word, many):
    """The tuple of the tuples of a name and so many numbers, each one with the word ahead."""
    rows = []
    while reader.ahead() == word:
        reader.taken()
        name = read_name(reader)
        rows.append((name,) + read_numbers(reader, many))
    return tuple(rows)


def read_phase(reader):
    """The pair of a phase's name and its block."""
    read_exactly(reader, "phase")
    name = read_name(reader)
    block = read_block(reader)
    read_exactly(reader, "end")
    return (name, block)


def read_block(reader):
    """The tuple of the statements up to a sign with which none begins."""
    statements = []
    while reader.ahead() in STATEMENT_WORDS:
        statements.append(read_statement(reader))
    return tuple(statements)


def read_statement(reader):
    """The statement that comes next."""
    word = reader.taken()
    if word == "out":
        return (word, read_sum(reader))
    if word == "go":
        return (word, read_name(reader))
    if word == "set":
        name = read_name(reader)
        return (word, name, read_sum(reader))
    condition = read_condition(reader)
    one, other = read_block(reader), ()
    if reader.ahead() == "else":
        reader.taken()
        other = read_block(reader)
    read_exactly(reader, "end")
    return (word, condition, one, other)


def read_sum(reader):
    """The sum that comes next."""
    sign = reader.ahead()
    if is_number(sign):
        return read_number(reader)
    if is_plain_name(sign):
        return read_name(reader)
    if sign not in SUM_PARTS:
        raise InvalidText(reader.at)
    return read_parts(reader, SUM_PARTS[sign])


def read_condition(reader):
    """The condition that comes next."""
    sign = reader.ahead()
    if sign not in CONDITION_PARTS:
        raise InvalidText(reader.at)
    return read_parts(reader, CONDITION_PARTS[sign])


def read_parts(reader, kinds):
    """The tuple of the word that comes next and of its parts."""
    parts = [reader.taken()]
    for kind in kinds:
        if kind == "word":
            parts.append(read_number(reader))
        elif kind == "sum":
            parts.append(read_sum(reader))
        else:
            parts.append(read_condition(reader))
    return tuple(parts)
