"""Numbers in figures, and texts by rows of words."""

from math import gcd

FIGURES = "0123456789"


def is_number(word):
    """Whether the word is a whole number in figures, without noughts ahead, - ahead of one below 0."""
    figures = word[1:] if word.startswith("-") else word
    if figures == "" or not all(figure in FIGURES for figure in figures):
        return False
    return word == "0" or figures[0] != "0"


def whole_in(word):
    """The whole number that the word tells; None."""
    return int(word) if is_number(word) else None


def fraction_in(word):
    """The fraction that the word tells, in lowest terms as it stands there; None."""
    if "/" not in word:
        return (int(word), 1) if is_number(word) else None
    top, _, bottom = word.partition("/")
    if not is_number(top) or not is_number(bottom) or int(bottom) < 2 or gcd(int(top), int(bottom)) != 1:
        return None
    return (int(top), int(bottom))


def wholes_in(words):
    """The tuple of the whole numbers that the words tell; None if one of them tells none."""
    numbers = tuple([whole_in(word) for word in words])
    return None if None in numbers else numbers


def fractions_in(words):
    """The tuple of the fractions that the words tell; None if one of them tells none."""
    numbers = tuple([fraction_in(word) for word in words])
    return None if None in numbers else numbers


def word_of(number):
    """The word that tells a fraction."""
    return str(number[0]) if number[1] == 1 else f"{number[0]}/{number[1]}"


def words_of(numbers):
    """The list of the words that tell the fractions."""
    return [word_of(number) for number in numbers]


def row_of(words):
    """The row of these words and whole numbers."""
    return " ".join([str(word) for word in words])


def rows_in(text):
    """The list of the text's rows; what stands behind the last line end is one without words, which is none."""
    rows = text.split("\n")
    last = rows.pop()
    return rows if last == "" else rows + [""]


def text_by(rows):
    """The text of these rows, each ended by a line end."""
    return "".join([row + "\n" for row in rows])
