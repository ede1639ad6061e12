"""The console: commands that tell of the loops that are shown, and their answers."""

from safehelms.errors import InvalidRows
from safehelms.exact import fraction, total
from safehelms.figures import is_number, row_of, text_by, words_of
from safehelms.histories import begin_row, step_row
from safehelms.loops import MOST_STEPS, begun_at, standings_by, stepped_on
from safehelms.plants import readings_at
from safehelms.shown import is_shown, refused, shown, shown_paper

MOST_COMMANDS = 60


def said(commands):
    """The tuple of the answers to the commands."""
    if not isinstance(commands, tuple):
        raise InvalidRows(None)
    for index, command in enumerate(commands):
        if index == MOST_COMMANDS or not isinstance(command, str):
            raise InvalidRows(index)
    # Alike commands have one answer, so it is sought once.
    answers = {}
    for command in commands:
        if command not in answers:
            answers[command] = text_by(answer_to(command.split(" ")))
    return tuple([answers[command] for command in commands])


def answer_to(words):
    """The list of the rows of the answer to a command of these words."""
    if len(words) == 3 and words[0] == "run" and is_shown(words[1]) and is_step_count(words[2]):
        return run_rows(words[1], int(words[2]))
    if len(words) == 2 and words[0] == "judge" and is_shown(words[1]):
        return [row_of(["safe", len(shown_paper(words[1])[1])])]
    if len(words) == 2 and words[0] == "break" and is_shown(words[1]):
        loop, state, rows = refused(words[1])
        return told_rows(loop, state, rows) + ["not safe"]
    return ["no such command"]


def is_step_count(word):
    """Whether the word is a number of steps that a run may have."""
    # What has more than two figures is no such number, however many they are.
    return is_number(word) and len(word) <= 2 and 0 <= int(word) <= MOST_STEPS


def run_rows(name, many):
    """The list of the rows of so many steps of the loop of this name, nothing held and nothing cut."""
    loop = shown(name)
    plant = loop[0]
    state = middles_of(plant[2])
    standing, rows = begun_at(loop, state), []
    for _ in range(many):
        readings = tuple([least for least, _ in readings_at(plant, standing[2])])
        rows.append((0, middles_of(plant[1]), readings, 0, 0))
        standing = stepped_on(loop, standing, rows[-1])
    return told_rows(loop, state, tuple(rows))


def middles_of(pairs):
    """The row of the middles of pairs (LOW, HIGH)."""
    return tuple([middle_of(total(low, high)) for low, high in pairs])


def middle_of(both):
    """Half of a fraction."""
    return fraction(both[0], 2 * both[1])


def told_rows(loop, state, rows):
    """The list of the rows of a history, and behind each step a row of the numbers then."""
    told = [begin_row(state)]
    for comes, standing in zip(rows, standings_by(loop, begun_at(loop, state), rows)[1:]):
        told.append(step_row(comes))
        told.append(row_of(["at"] + words_of(standing[2])))
    return told
