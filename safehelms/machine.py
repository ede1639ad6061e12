"""The machine: cells with words of a width, and programs whose jumps lead on alone."""

from safehelms.errors import InvalidCells, InvalidNumber, InvalidProgram
from safehelms.exact import is_index, is_tuple_of, is_whole
from safehelms.shapes import head_of
from safehelms.words import check_width, is_word, wrapped_word

ROW_PARTS = {"put": ("cell", "word"), "copy": ("cell", "cell"), "add": ("cell", "cell", "cell"),
             "less": ("cell", "cell", "cell"), "times": ("cell", "cell", "word"), "jump": ("row",),
             "below": ("cell", "cell", "row"), "stop": ()}


def is_program(value):
    """Whether a value, whatever it is, is a program with words of 32."""
    return is_tuple_of(value, 1, 2000) and wrong_row(32, value) is None


def wrong_row(width, program):
    """The index of the first element that is no row as it has to be there; None."""
    for index, row in enumerate(program):
        if not is_program_row(width, row, index, len(program)):
            return index
        if index == len(program) - 1 and row[0] != "stop":
            return index
    return None


def is_program_row(width, value, index, many):
    """Whether a value is the row of this index of a program of so many."""
    parts = ROW_PARTS.get(head_of(value))
    if parts is None or len(value) != len(parts) + 1:
        return False
    for kind, part in zip(parts, value[1:]):
        if kind == "cell" and not is_index(part, 128):
            return False
        if kind == "word" and not is_word(width, part):
            return False
        if kind == "row" and not (is_index(part, many) and part > index):
            return False
    return True


def wrapped(width, number):
    """The one word that is alike the number modulo 2 ** width."""
    check_width(width)
    if not is_whole(number):
        raise InvalidNumber(number)
    return wrapped_word(width, number)


def run_program(width, program, cells):
    """The tuple of the cells' words in the end."""
    check_width(width)
    if not is_tuple_of(program, 1, 2000):
        raise InvalidProgram(None)
    wrong = wrong_row(width, program)
    if wrong is not None:
        raise InvalidProgram(wrong)
    if not is_tuple_of(cells, 1, 128):
        raise InvalidCells(None)
    check_words(width, cells)
    for index, row in enumerate(program):
        if not all(cell < len(cells) for cell in cells_named(row)):
            raise InvalidProgram(index)
    return ended(width, program, list(cells))


def check_words(width, cells):
    """Raise InvalidCells for the first that is no word of the width."""
    for index, word in enumerate(cells):
        if not is_word(width, word):
            raise InvalidCells(index)


def cells_named(row):
    """The list of the cells that a right row names."""
    return [part for kind, part in zip(ROW_PARTS[row[0]], row[1:]) if kind == "cell"]


def ended(width, program, cells):
    """The tuple of the words in the end, begun with this list, which is changed."""
    at = 0
    while program[at][0] != "stop":
        at = done(width, program[at], at, cells)
    return tuple(cells)


def done(width, row, at, cells):
    """Do the row at this index: set its cell, if it sets one; the index of the row to go on at."""
    word = row[0]
    if word == "jump":
        return row[1]
    if word == "below":
        return row[3] if cells[row[1]] < cells[row[2]] else at + 1
    if word == "put":
        cells[row[1]] = row[2]
    elif word == "copy":
        cells[row[1]] = cells[row[2]]
    elif word == "add":
        cells[row[1]] = wrapped_word(width, cells[row[2]] + cells[row[3]])
    elif word == "less":
        cells[row[1]] = wrapped_word(width, cells[row[2]] - cells[row[3]])
    else:
        cells[row[1]] = wrapped_word(width, cells[row[2]] * row[3])
    return at + 1
