"""The signs of controllers: their words, what follows each of them, and what is a name."""

SUM_PARTS = {"add": ("sum", "sum"), "less": ("sum", "sum"), "times": ("word", "sum"), "least": ("sum", "sum"),
             "greatest": ("sum", "sum"), "clamp": ("sum", "word", "word")}
CONDITION_PARTS = {"from": ("sum", "sum"), "above": ("sum", "sum"), "same": ("sum", "sum"), "not": ("condition",),
                   "and": ("condition", "condition"), "or": ("condition", "condition")}
STATEMENT_WORDS = ("set", "out", "go", "if")
WORDS = ("word", "in", "keep", "out", "phase", "set", "go", "if", "else", "end", "add", "less", "times", "least",
         "greatest", "clamp", "from", "above", "same", "not", "and", "or")
LETTERS = "abcdefghijklmnopqrstuvwxyz_"


def is_plain_name(value):
    """Whether a value is a text of one to twelve letters that is none of the words."""
    if not isinstance(value, str) or not 1 <= len(value) <= 12 or value in WORDS:
        return False
    return all(letter in LETTERS for letter in value)


def head_of(value):
    """The text with which a tuple begins; None."""
    if isinstance(value, tuple) and len(value) > 0 and isinstance(value[0], str):
        return value[0]
    return None
