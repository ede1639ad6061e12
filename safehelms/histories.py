"""Histories of loops as texts, there and back."""

from safehelms.errors import InvalidText
from safehelms.figures import fractions_in, row_of, rows_in, text_by, wholes_in, words_of
from safehelms.loops import MOST_STEPS, begun_at, check_loop, fits_at, is_within, run, stepped_on


def history_text(loop, state, rows):
    """The text of the history."""
    # The run is told for its errors alone.
    run(loop, state, rows)
    return text_by([begin_row(state)] + [step_row(comes) for comes in rows])


def begin_row(state):
    """The row with which the text begins."""
    return row_of(["begin"] + words_of(state))


def step_row(comes):
    """The row of a step by what comes."""
    mode, noise, readings, held, cut = comes
    return row_of(["step", mode, held, cut] + words_of(noise) + list(readings))


def history_of(loop, text):
    """The history (X, ROWS) of the text."""
    check_loop(loop)
    if not isinstance(text, str):
        raise InvalidText(None)
    rows = rows_in(text)
    state = begun_in(rows[0]) if rows else None
    if state is None or not is_within(loop[0][2], state):
        raise InvalidText(0)
    standing, told = begun_at(loop, state), []
    for index, row in enumerate(rows[1:], start=1):
        comes = comes_in(row, len(state))
        if index > MOST_STEPS or not fits_at(loop, standing, comes):
            raise InvalidText(index)
        standing = stepped_on(loop, standing, comes)
        told.append(comes)
    return (state, tuple(told))


def begun_in(row):
    """The row of numbers that a row `begin` tells; None."""
    words = row.split(" ")
    return fractions_in(words[1:]) if words[0] == "begin" else None


def comes_in(row, many):
    """What comes by a row `step`, with so many numbers of noise; None."""
    words = row.split(" ")
    numbers = wholes_in(words[1:4])
    if words[0] != "step" or numbers is None or len(numbers) != 3:
        return None
    mode, held, cut = numbers
    return (mode, fractions_in(words[4:4 + many]), wholes_in(words[4 + many:]), held, cut)
